import PyProof.Rows.All
import Wide.All
import OpenK.AllK
import Wide.FinOn
import Lean
import PyProof.EqAt
import PyProof.EqKinds
import PyProof.TupleCall
import PySem.Challenge.RW_neverwait_k51_stands_of_a_log
set_option Elab.async false
set_option linter.all false
set_option maxRecDepth 100000
/-! THE HAND LAYER, for ints, bools, texts, own classes, LISTS and tuples (index, slices, in, append, pop ..), calls, loops. Paste it whole ahead of your own text; what your proof does not reach may be deleted. -/
namespace L2
open PySem PySem.Spec PyProof.Rows

/-- a key: an int or a str -/
abbrev Key := Sum Int Str
def keyIs : Key → Value → Bool
  | .inl k, v => Value.isInt k v
  | .inr x, v => Value.isStrOf x v
def keyH (w : World) : Key → Int
  | .inl k => hashInt k
  | .inr x => hashStr w x
theorem keyIs_shape : ∀ {k : Key} {v : Value}, keyIs k v = true → (∃ i t, k = Sum.inl i ∧ v = Value.int i t) ∨ (∃ x t, k = Sum.inr x ∧ v = Value.str x t)
  | .inl i, v, h => by
    obtain ⟨t, e⟩ := Value.isInt_shape (k := i) (v := v) h
    exact .inl ⟨i, t, rfl, e⟩
  | .inr x, v, h => by
    obtain ⟨t, e⟩ := Value.isStrOf_shape (x := x) (v := v) h
    exact .inr ⟨x, t, rfl, e⟩
theorem keyIs_int (i : Int) (t : Tok) : keyIs (.inl i) (.int i t) = true := by simp [keyIs, Value.isInt]
theorem keyIs_str (x : Str) (t : Tok) : keyIs (.inr x) (.str x t) = true := by simp [keyIs, Value.isStrOf]
theorem key_ll (a b : Int) : decide ((Sum.inl a : Key) = Sum.inl b) = (a == b) := by
  by_cases e : a = b
  · subst e; simp
  · have h : ¬ (Sum.inl a : Key) = Sum.inl b := fun q => e (Sum.inl.inj q)
    rw [decide_eq_false h]
    exact (beq_eq_false_iff_ne.mpr e).symm
theorem key_rr (a b : Str) : decide ((Sum.inr a : Key) = Sum.inr b) = decide (a = b) := by
  by_cases e : a = b
  · subst e; simp
  · have h : ¬ (Sum.inr a : Key) = Sum.inr b := fun q => e (Sum.inr.inj q)
    rw [decide_eq_false h, decide_eq_false e]
theorem key_lr (a : Int) (b : Str) : decide ((Sum.inl a : Key) = Sum.inr b) = false := decide_eq_false (fun q => nomatch q)
theorem key_rl (a : Str) (b : Int) : decide ((Sum.inr a : Key) = Sum.inl b) = false := decide_eq_false (fun q => nomatch q)

def mixKind (prog : Program) (w : World) : PySem.KeyKind prog w Key where
  is := keyIs
  hash := keyH w
  inj := fun v a b ha hb => by
    rcases keyIs_shape ha with ⟨i, t, rfl, rfl⟩ | ⟨x, t, rfl, rfl⟩
    · rcases keyIs_shape hb with ⟨j, u, rfl, e⟩ | ⟨y, u, rfl, e⟩
      · injection e with e1 _; rw [e1]
      · exact nomatch e
    · rcases keyIs_shape hb with ⟨j, u, rfl, e⟩ | ⟨y, u, rfl, e⟩
      · exact nomatch e
      · injection e with e1 _; rw [e1]
  byValue := fun k v h => by
    rcases keyIs_shape h with ⟨i, t, rfl, rfl⟩ | ⟨x, t, rfl, rfl⟩ <;> rfl
  pyHash := fun hv h => by
    rcases keyIs_shape hv with ⟨i, t, rfl, rfl⟩ | ⟨x, t, rfl, rfl⟩
    · exact wpAny_pyHash_int h
    · exact wpAny_pyHash_str h
  eqBool := fun hu hv h => by
    rcases keyIs_shape hu with ⟨i, t, rfl, rfl⟩ | ⟨x, t, rfl, rfl⟩
    · rcases keyIs_shape hv with ⟨j, u, rfl, rfl⟩ | ⟨y, u, rfl, rfl⟩
      · rw [key_ll] at h; exact wpAny_eqBool_int h
      · rw [key_lr] at h; exact SeqAt.EqAt.int_str i t y u _ _ _ _ h
    · rcases keyIs_shape hv with ⟨j, u, rfl, rfl⟩ | ⟨y, u, rfl, rfl⟩
      · rw [key_rl] at h; exact SeqAt.EqAt.str_int x t j u _ _ _ _ h
      · rw [key_rr] at h; exact wpAny_eqBool_str h
  «strs» := fun k x t v h => by
    rcases keyIs_shape h with ⟨i, u, rfl, e⟩ | ⟨y, u, rfl, e⟩
    · exact nomatch e
    · injection e with e1 _
      subst e1
      cases v <;> rfl

theorem mixKind_is (prog : Program) (w : World) (k : Key) (v : Value) : (mixKind prog w).is k v = keyIs k v := rfl
theorem mixKind_int (prog : Program) (w : World) (i : Int) (t : Tok) : (mixKind prog w).is (.inl i) (.int i t) = true := keyIs_int i t
theorem mixKind_str (prog : Program) (w : World) (x : Str) (t : Tok) : (mixKind prog w).is (.inr x) (.str x t) = true := keyIs_str x t
end L2

namespace L2
open PySem PySem.Spec PyProof.Rows

/-- a value, without the heap -/
inductive V where
  | non | bl (b : Bool) | int (i : Int) | str (x : Str) | byt (b : Array UInt8) | flt (b : UInt64) | ref (a : Addr) | ty (n : String)
  deriving DecidableEq

def RelV : V → Value → Prop
  | .non, u => u = Value.none
  | .bl b, u => u = Value.bool b
  | .int i, u => ∃ t, u = Value.int i t
  | .str x, u => ∃ t, u = Value.str x t
  | .byt b, u => ∃ t, u = Value.bytes b t
  | .flt b, u => ∃ t, u = Value.float b t
  | .ref a, u => u = Value.ref a
  | .ty n, u => u = Value.type n

abbrev Vals : List V → List Value → Prop := Paired RelV
theorem Vals.length {xs : List V} {us : List Value} (r : Vals xs us) : xs.length = us.length := Paired.length r
theorem Vals.get : ∀ {xs : List V} {us : List Value} {i : Nat} {x : V}, Vals xs us → xs[i]? = some x → ∃ u, us[i]? = some u ∧ RelV x u
  | _, _, _, _, .nil, e => by simp at e
  | _, _, 0, _, .cons r _, e => by simp at e; subst e; exact ⟨_, rfl, r⟩
  | _, _, i + 1, x, .cons _ t, e => by
    obtain ⟨u, h1, h2⟩ := Vals.get (i := i) (x := x) t (by simpa using e)
    exact ⟨u, by simpa using h1, h2⟩
theorem Vals.set {x : V} {u : Value} (r : RelV x u) : ∀ {xs : List V} {us : List Value} (i : Nat), Vals xs us → Vals (xs.set i x) (us.set i u)
  | _, _, _, .nil => .nil
  | _, _, 0, .cons _ t => .cons r t
  | _, _, i + 1, .cons q t => .cons q (Vals.set r i t)
theorem Vals.append : ∀ {xs ys : List V} {us ws : List Value}, Vals xs us → Vals ys ws → Vals (xs ++ ys) (us ++ ws)
  | _, _, _, _, .nil, s => s
  | _, _, _, _, .cons r t, s => .cons r (Vals.append t s)
theorem Vals.take : ∀ {xs : List V} {us : List Value} (n : Nat), Vals xs us → Vals (xs.take n) (us.take n)
  | _, _, 0, _ => .nil
  | _, _, _ + 1, .nil => .nil
  | _, _, n + 1, .cons r t => .cons r (Vals.take n t)
theorem Vals.drop : ∀ {xs : List V} {us : List Value} (n : Nat), Vals xs us → Vals (xs.drop n) (us.drop n)
  | _, _, 0, r => r
  | _, _, _ + 1, .nil => .nil
  | _, _, n + 1, .cons _ t => Vals.drop n t
theorem Vals.none_of : ∀ {xs : List V} {us : List Value} {i : Nat}, Vals xs us → xs[i]? = none → us[i]? = none := fun {xs us i} r e => by
  have h1 := r.length
  have h2 : xs.length ≤ i := List.getElem?_eq_none_iff.mp e
  exact List.getElem?_eq_none_iff.mpr (by omega)

def RelO : Option V → Option Value → Prop
  | some v, some u => RelV v u
  | none, none => True
  | _, _ => False
def KV {κ : Type} : List (κ × V) → List (κ × Value) → Prop := Paired fun (p : κ × V) (q : κ × Value) => p.1 = q.1 ∧ RelV p.2 q.2

/-- a key of a dict (00_mix): an int or a text -/
def kV : Key → V
  | .inl i => .int i
  | .inr x => .str x

/-- what stands at a tracked address -/
inductive HO where
  /-- a list -/
  | lst (xs : List V)
  /-- a tuple (never changes) -/
  | tup (xs : List V)
  /-- a dict whose keys are ints and texts; one whose keys are tuples of ints and texts (the empty one is both) -/
  | dK (kvs : List (Key × V)) | dT (kvs : List (List Key × V))
  /-- a set of ints: its members, its size -/
  | set (S : Int → Bool) (n : Nat)
  /-- an instance of the class at C, its dict at dx, its attributes -/
  | ins (C dx : Addr) (fs : List (Str × V))
  /-- the dict of the instance at x -/
  | own (x : Addr)
  /-- the dict of an exception -/
  | xd (fs : List (Str × V))
  /-- a bound method, f of x -/
  | met (f x : Addr)
  /-- a range object lo, lo + 1, .. below hi -/
  | rng (lo hi : Int)
  /-- a thing that is known to the object (the script; a dict while a loop walks it): read, never written while it is so -/
  | frz (o : Obj) (u : HO)
  /-- a code object's table -/
  | tbl (ps : Array Value)
  /-- any other thing, by what is true of its one object (a def of one's own: SetO a S n := HO.ext fun h => ..) -/
  | ext (φ : Heap → Prop)

abbrev Hp := Addr → Option HO
def upd (H : Hp) (a : Addr) (o : HO) : Hp := fun b => if b = a then some o else H b
theorem upd_same {H : Hp} {a : Addr} {o : HO} : upd H a o a = some o := by unfold upd; rw [if_pos rfl]
theorem upd_ne {H : Hp} {a b : Addr} {o : HO} (h : b ≠ a) : upd H a o b = H b := by unfold upd; rw [if_neg h]
theorem upd_upd {H : Hp} {a : Addr} {o u : HO} : upd (upd H a o) a u = upd H a u := by
  funext b; unfold upd; split <;> rfl
/-- two objects of different content stand apart -/
theorem ne_of {H : Hp} {a b : Addr} {o u : HO} (h : H a = some o) (h' : H b = some u) (d : o ≠ u) : a ≠ b := by
  intro e; subst e; rw [h] at h'; exact d (Option.some.inj h')
theorem ne_of_none {H : Hp} {a b : Addr} {o : HO} (h : H a = some o) (h' : H b = none) : a ≠ b := by
  intro e; subst e; rw [h] at h'; cases h'

section
variable (P : Program) (w : World)
def ObjOk (H : Hp) (h : Heap) (a : Addr) : HO → Prop
  | .lst xs => xs.length ≤ sizeLine ∧ ∃ (its : List Value) (n : Nat), Vals xs its ∧ h.get? a = some { cls := .type "list", data := .seq its.toArray n }
  | .tup xs => xs.length ≤ sizeLine ∧ ∃ its : List Value, Vals xs its ∧ IsTup h a its.toArray
  | .dK kvs => kvs.length ≤ sizeLine ∧ (a == sysModules) = false ∧ ∃ vs, KV kvs vs ∧ h.DictOf (mixKind P w) a vs
  | .dT kvs => kvs.length ≤ sizeLine ∧ (a == sysModules) = false ∧ ∃ xs : List (List Key × Addr × Value),
      Paired (fun (p : List Key × V) (q : List Key × Addr × Value) => p.1 = q.1 ∧ H q.2.1 = some (.tup (p.1.map kV)) ∧ RelV p.2 q.2.2) kvs xs ∧
      ∃ o es ep, h.get? a = some o ∧ o.ExactDict ∧ o.data = .dict es ep ∧ es.toList = xs.map (entryOfKey (tupleKind (mixKind P w))) ∧ (xs.map (·.1)).Nodup
  | .set S n => h.SetOf (intKind P w) a S n
  | .ins C dx fs => H dx = some (.own a) ∧ fs.length ≤ 1000 ∧ dx ≠ a ∧ h.get? a = some (PySem.W.instObj C dx) ∧
      ∃ mA, h.Ns1 dx mA ∧ (∀ f, RelO (fs.lookup f) (mA f)) ∧ PySem.Within mA (fs.map (·.1))
  | .own _ => ∃ o, h.get? a = some o
  | .xd fs => ∃ mA, h.Ns1 a mA ∧ ∀ f, RelO (fs.lookup f) (mA f)
  | .rng lo hi => ∃ t u v, h.get? a = some { cls := .type "range", data := .fields #[.int lo t, .int hi u, .int 1 v] }
  | .frz o u => h.get? a = some o ∧ ObjOk H h a u
  | .tbl ps => h.get? a = some { cls := .none, data := .fields ps }
  | .met f x => h.get? a = some (PySem.W.methodObj (.ref f) (.ref x))
  | .ext φ => φ h ∧ (∃ o, h.get? a = some o) ∧ ∀ h1 h2 : Heap, φ h1 → (∀ o, h1.get? a = some o → h2.get? a = some o) → φ h2
/-- the abstract heap is held -/
def HOk (H : Hp) (h : Heap) : Prop := ∀ a o, H a = some o → ObjOk P w H h a o
end

section
variable {P : Program} {w : World} {H H' : Hp} {h h' : Heap} {a : Addr} {o : HO}
theorem ObjOk.lt (x : ObjOk P w H h a o) : a < h.objs.size := by
  cases o with
  | lst xs => obtain ⟨_, _, _, _, e⟩ := x; exact Heap.lt_size e
  | tup xs => obtain ⟨_, _, _, p⟩ := x; exact p.lt
  | dK kvs => obtain ⟨_, _, _, _, o, _, _, e, _⟩ := x; exact Heap.lt_size e
  | dT kvs => obtain ⟨_, _, _, _, o, _, _, e, _⟩ := x; exact Heap.lt_size e
  | set S n => obtain ⟨o, _, _, _, e, _⟩ := x; exact Heap.lt_size e
  | ins C dx fs => obtain ⟨_, _, _, e, _⟩ := x; exact Heap.lt_size e
  | own y => obtain ⟨_, e⟩ := x; exact Heap.lt_size e
  | xd fs => obtain ⟨_, ⟨_, _, _, e, _⟩, _⟩ := x; exact Heap.lt_size e
  | rng lo hi => obtain ⟨_, _, _, e⟩ := x; exact Heap.lt_size e
  | frz ob u => obtain ⟨e, _⟩ := x; exact Heap.lt_size e
  | tbl ps => exact Heap.lt_size (show h.get? a = some _ from x)
  | met f y => exact Heap.lt_size (show h.get? a = some _ from x)
  | ext φ => obtain ⟨_, ⟨_, e⟩, _⟩ := x; exact Heap.lt_size e
theorem Paired.mapP {α β : Type} {F G : α → β → Prop} : ∀ {l₁ : List α} {l₂ : List β}, Paired F l₁ l₂ → (∀ a b, F a b → G a b) → Paired G l₁ l₂
  | _, _, .nil, _ => .nil
  | _, _, .cons r t, f => .cons (f _ _ r) (Paired.mapP t f)
theorem Paired.imp' {α β : Type} {F G : α → β → Prop} (f : ∀ a b, F a b → G a b) {l₁ : List α} {l₂ : List β} (r : Paired F l₁ l₂) : Paired G l₁ l₂ := Paired.mapP r f
/-- what an object's description leans on: its own object, its own dict, the tuples -/
theorem ObjOk.stay (x : ObjOk P w H h a o) (k : ∀ b u, (b = a ∨ H b = some (.own a)) → h.get? b = some u → h'.get? b = some u)
    (ho : ∀ b, H b = some (.own a) → H' b = some (.own a)) (ht : ∀ b xs, H b = some (.tup xs) → H' b = some (.tup xs)) : ObjOk P w H' h' a o := by
  induction o with
  | lst xs => obtain ⟨z, its, n, r, e⟩ := x; exact ⟨z, its, n, r, k _ _ (.inl rfl) e⟩
  | tup xs => obtain ⟨z, its, r, ob, e, c⟩ := x; exact ⟨z, its, r, ob, k _ _ (.inl rfl) e, c⟩
  | dK kvs => obtain ⟨z, y, vs, r, ob, es, ep, e, c⟩ := x; exact ⟨z, y, vs, r, ob, es, ep, k _ _ (.inl rfl) e, c⟩
  | dT kvs =>
    obtain ⟨z, y, xs, r, ob, es, ep, e, c⟩ := x
    exact ⟨z, y, xs, Paired.mapP r fun p q z => ⟨z.1, ht _ _ z.2.1, z.2.2⟩, ob, es, ep, k _ _ (.inl rfl) e, c⟩
  | set S n => obtain ⟨ob, es, ep, t, e, c⟩ := x; exact ⟨ob, es, ep, t, k _ _ (.inl rfl) e, c⟩
  | ins C dx fs =>
    obtain ⟨d, z, ne, e, mA, ⟨od, es, ep, e2, c⟩, r⟩ := x
    exact ⟨ho _ d, z, ne, k _ _ (.inl rfl) e, mA, ⟨od, es, ep, k _ _ (.inr d) e2, c⟩, r⟩
  | own y => obtain ⟨ob, e⟩ := x; exact ⟨ob, k _ _ (.inl rfl) e⟩
  | xd fs => obtain ⟨mA, ⟨od, es, ep, e, c⟩, r⟩ := x; exact ⟨mA, ⟨od, es, ep, k _ _ (.inl rfl) e, c⟩, r⟩
  | rng lo hi => obtain ⟨t, u, v, e⟩ := x; exact ⟨t, u, v, k _ _ (.inl rfl) e⟩
  | frz ob u ih => obtain ⟨e, q⟩ := x; exact ⟨k _ _ (.inl rfl) e, ih q⟩
  | tbl ps =>
    have e : h.get? a = some { cls := .none, data := .fields ps } := x
    show h'.get? a = some { cls := .none, data := .fields ps }
    exact k a _ (.inl rfl) e
  | met f y =>
    have e : h.get? a = some (PySem.W.methodObj (.ref f) (.ref y)) := x
    show h'.get? a = some (PySem.W.methodObj (.ref f) (.ref y))
    exact k a _ (.inl rfl) e
  | ext φ => obtain ⟨p, ⟨o, e⟩, st⟩ := x; exact ⟨st _ _ p fun o q => k _ _ (.inl rfl) q, ⟨o, k _ _ (.inl rfl) e⟩, st⟩
theorem HOk.lt (x : HOk P w H h) (e : H a = some o) : a < h.objs.size := (x a o e).lt
theorem HOk.fresh (x : HOk P w H h) (e : h.objs.size ≤ a) : H a = none := by
  cases q : H a with
  | none => rfl
  | some u => exact absurd (Nat.lt_of_lt_of_le (x.lt q) e) (Nat.lt_irrefl _)
/-- every object of the heap is kept -/
theorem HOk.kept (x : HOk P w H h) (k : ∀ b u, h.get? b = some u → h'.get? b = some u) : HOk P w H h' := fun a o e =>
  (x a o e).stay (fun b u _ q => k b u q) (fun _ q => q) fun _ _ q => q
/-- a new object is laid and tracked -/
theorem HOk.laid (x : HOk P w H h) (k : ∀ b u, h.get? b = some u → h'.get? b = some u) (hp : h.objs.size ≤ a) (new : ObjOk P w (upd H a o) h' a o) : HOk P w (upd H a o) h' := fun b u e => by
  have hn := x.fresh hp
  by_cases hb : b = a
  · subst hb; rw [upd_same] at e; cases e; exact new
  · rw [upd_ne hb] at e
    exact (x b u e).stay (fun c v _ q => k c v q) (fun c q => by rw [upd_ne (ne_of_none q hn)]; exact q) fun c xs q => by rw [upd_ne (ne_of_none q hn)]; exact q
end

/-- what may be read as u: it is u, or a known u -/
def Rd (H : Hp) (a : Addr) (u : HO) : Prop := H a = some u ∨ ∃ o, H a = some (.frz o u)
theorem Rd.of {H : Hp} {a : Addr} {u : HO} (h : H a = some u) : Rd H a u := .inl h
theorem Rd.ok {P : Program} {w : World} {H : Hp} {h : Heap} {a : Addr} {u : HO} (r : Rd H a u) (x : HOk P w H h) : ObjOk P w H h a u := by
  rcases r with r | ⟨o, r⟩
  · exact x a u r
  · obtain ⟨_, q⟩ := x a _ r
    exact q
/-- what may be written -/
def Mut : Option HO → Prop
  | some (.lst _) => True
  | some (.dK _) => True
  | some (.dT _) => True
  | some (.set _ _) => True
  | some (.ins _ _ _) => True
  | some (.ext _) => True
  | _ => False
section
variable {P : Program} {w : World} {H : Hp} {h h' : Heap} {x e : Addr} {o' : HO}
/-- the object at e is changed: x itself, or the dict of the instance x -/
theorem HOk.write (ok : HOk P w H h) (mu : Mut (H x)) (he : e = x ∨ H e = some (.own x)) (k : ∀ b u, b ≠ e → h.get? b = some u → h'.get? b = some u) (heo : ∃ u, h'.get? e = some u)
    (new : ObjOk P w (upd H x o') h' x o') : HOk P w (upd H x o') h' := fun b u q => by
  have nown : ∀ c y, H c = some (.own y) → c ≠ x := fun c y r z => by subst z; rw [r] at mu; exact mu
  have ntup : ∀ c xs, H c = some (.tup xs) → c ≠ x := fun c xs r z => by subst z; rw [r] at mu; exact mu
  by_cases hb : b = x
  · subst hb; rw [upd_same] at q; cases q; exact new
  · rw [upd_ne hb] at q
    by_cases hbe : b = e
    · have q' : H b = some (.own x) := by
        rcases he with z | z
        · exact absurd (hbe.trans z) hb
        · rw [hbe]; exact z
      rw [q] at q'; cases q'
      obtain ⟨v, hv⟩ := heo
      exact ⟨v, by rw [hbe]; exact hv⟩
    · refine (ok b u q).stay (fun c v hc r => k c v ?_ r) (fun c r => by rw [upd_ne (nown c b r)]; exact r) fun c xs r => by rw [upd_ne (ntup c xs r)]; exact r
      rcases hc with rfl | hc
      · exact hbe
      · rintro rfl
        rcases he with z | z
        · exact nown c b hc z
        · rw [hc] at z; cases z; exact hb rfl
end

/-! ### kept unless tracked; of the frames at fs (the callers') the slots may change (an exception that passes writes there); of the records at ex (iterators) nothing is said -/
structure Un (fs ex : List Addr) (H H' : Hp) (h h' : Heap) : Prop where
  keep : ∀ b o, h.get? b = some o → H b = none → b ∉ fs → b ∉ ex → h'.get? b = some o
  slot : ∀ b o, h.get? b = some o → H b = none → b ∈ fs → b ∉ ex → ∃ sl, h'.get? b = some { o with slots := sl }
  free : ∀ b o, h.get? b = some o → H b = none → b ∉ ex → H' b = none
  there : ∀ b o, h.get? b = some o → b ∉ ex → ∃ o', h'.get? b = some o'
  tups : ∀ b xs, H b = some (.tup xs) → H' b = some (.tup xs)
  frzs : ∀ b o u, H b = some (.frz o u) → H' b = some (.frz o u)
  tbls : ∀ b ps, H b = some (.tbl ps) → ∃ more, H' b = some (.tbl (ps ++ more))
section
variable {fs fs' ex ex' : List Addr} {H H1 H2 : Hp} {h h1 h2 h' : Heap} {a x e : Addr} {o : HO}
theorem Un.any (u : Un fs ex H H1 h h1) {b : Addr} {ob : Obj} (q : h.get? b = some ob) (n : H b = none) (hx : b ∉ ex) : ∃ sl, h1.get? b = some { ob with slots := sl } := by
  by_cases hb : b ∈ fs
  · exact u.slot b ob q n hb hx
  · exact ⟨ob.slots, u.keep b ob q n hb hx⟩
theorem Un.trans (a : Un fs ex H H1 h h1) (b : Un fs ex H1 H2 h1 h2) : Un fs ex H H2 h h2 where
  keep := fun c ob q n hc hx => b.keep c ob (a.keep c ob q n hc hx) (a.free c ob q n hx) hc hx
  slot := fun c ob q n hc hx => by
    obtain ⟨sl, e1⟩ := a.slot c ob q n hc hx
    obtain ⟨sl', e2⟩ := b.slot c _ e1 (a.free c ob q n hx) hc hx
    exact ⟨sl', e2⟩
  free := fun c ob q n hx => by
    obtain ⟨o', e1⟩ := a.there c ob q hx
    exact b.free c o' e1 (a.free c ob q n hx) hx
  there := fun c ob q hx => by
    obtain ⟨o', e1⟩ := a.there c ob q hx
    exact b.there c o' e1 hx
  tups := fun c xs q => b.tups c xs (a.tups c xs q)
  frzs := fun c ob xs q => b.frzs c ob xs (a.frzs c ob xs q)
  tbls := fun c ps q => by
    obtain ⟨m1, e1⟩ := a.tbls c ps q
    obtain ⟨m2, e2⟩ := b.tbls c _ e1
    exact ⟨m1 ++ m2, by rw [e2, Array.append_assoc]⟩
theorem Un.kept (k : ∀ b u, h.get? b = some u → h'.get? b = some u) : Un fs ex H H h h' :=
  ⟨fun b ob q _ _ _ => k b ob q, fun b ob q _ _ _ => ⟨ob.slots, k b ob q⟩, fun _ _ _ n _ => n, fun b ob q _ => ⟨ob, k b ob q⟩, fun _ _ q => q, fun _ _ _ q => q, fun _ ps q => ⟨#[], by rw [q]; simp⟩⟩
theorem Un.refl : Un fs ex H H h h := Un.kept fun _ _ q => q
theorem Un.laid (k : ∀ b u, h.get? b = some u → h'.get? b = some u) (hp : h.objs.size ≤ a) (hn : H a = none) : Un fs ex H (upd H a o) h h' where
  keep := fun b u q _ _ _ => k b u q
  slot := fun b u q _ _ _ => ⟨u.slots, k b u q⟩
  free := fun b u q n _ => by rw [upd_ne (Nat.ne_of_lt (Nat.lt_of_lt_of_le (Heap.lt_size q) hp))]; exact n
  there := fun b u q _ => ⟨u, k b u q⟩
  tups := fun b xs q => by rw [upd_ne (ne_of_none q hn)]; exact q
  frzs := fun b u xs q => by rw [upd_ne (ne_of_none q hn)]; exact q
  tbls := fun b ps q => ⟨#[], by rw [upd_ne (ne_of_none q hn), q]; simp⟩
theorem Un.write (mu : Mut (H x)) (he : e = x ∨ H e = some (.own x)) (k : ∀ b u, b ≠ e → h.get? b = some u → h'.get? b = some u) (heo : ∃ u, h'.get? e = some u) : Un fs ex H (upd H x o) h h' := by
  have hx : ∀ b, H b = none → b ≠ x := fun b n z => by subst z; rw [n] at mu; exact mu
  have hb : ∀ b, H b = none → b ≠ e := fun b n z => by
    subst z
    rcases he with r | r
    · exact hx b n r
    · rw [n] at r; cases r
  have hm : ∀ b u, H b = some u → ¬ Mut (some u) → b ≠ x := fun b u q nm z => by subst z; rw [q] at mu; exact nm mu
  refine ⟨fun b u q n _ _ => k b u (hb b n) q, fun b u q n _ _ => ⟨u.slots, k b u (hb b n) q⟩, fun b u q n _ => by rw [upd_ne (hx b n)]; exact n, fun b u q _ => ?_,
    fun b xs q => by rw [upd_ne (hm b _ q fun z => z)]; exact q, fun b u xs q => by rw [upd_ne (hm b _ q fun z => z)]; exact q, fun b ps q => ⟨#[], by rw [upd_ne (hm b _ q fun z => z), q]; simp⟩⟩
  by_cases hbe : b = e
  · subst hbe; exact heo
  · exact ⟨u, k b u hbe q⟩
theorem Un.mono (u : Un fs ex H H1 h h1) (hs : ∀ b ∈ fs, b ∈ fs') (hx : ∀ b ∈ ex, b ∈ ex') : Un fs' ex' H H1 h h1 :=
  ⟨fun b ob q n hb he => u.keep b ob q n (fun z => hb (hs b z)) fun z => he (hx b z), fun _ _ q n _ he => u.any q n fun z => he (hx _ z), fun b ob q n he => u.free b ob q n fun z => he (hx b z), fun b ob q he => u.there b ob q fun z => he (hx b z), u.tups, u.frzs, u.tbls⟩
end

/-! ### the heap without what is tracked -/
def trk (h : Heap) (H : Hp) : List Addr := (List.range h.objs.size).filter fun a => (H a).isSome
def hidT (h : Heap) (H : Hp) : Heap := PySem.W.hideAll h (trk h H)
theorem hidT_size (h : Heap) (H : Hp) : (hidT h H).objs.size = h.objs.size := PySem.W.hideAll_size _ _
theorem hidT_get {h : Heap} {H : Hp} {b : Addr} {o : Obj} (e : h.get? b = some o) (n : H b = none) : (hidT h H).get? b = some o :=
  PySem.W.hideAll_get _ e fun hm => by
    have q : (H b).isSome = true := (List.mem_filter.mp hm).2
    rw [n] at q; simp at q
theorem of_hidT {h : Heap} {H : Hp} {b : Addr} {o : Obj} (e : (hidT h H).get? b = some o) : h.get? b = some o ∧ H b = none := by
  have e' : h.get? b = some o := PySem.W.of_hideAll (trk h H) e
  refine ⟨e', ?_⟩
  cases q : H b with
  | none => rfl
  | some x =>
    have hm : b ∈ trk h H := List.mem_filter.mpr ⟨List.mem_range.mpr (Heap.lt_size e'), by simp [q]⟩
    have z : (hidT h H).get? b = none := PySem.W.hideAll_none (trk h H) hm
    rw [z] at e; cases e

/-! ### OpenK's ledger, filled with every new object but one -/
def allNews (g h : Heap) (L : Addr) : List (Addr × Obj) := (List.range h.objs.size).filterMap fun a => if a = L ∨ (g.get? a).isSome = true then none else (h.get? a).map fun o => (a, o)
theorem mem_allNews {g h : Heap} {L a : Addr} {o : Obj} (h1 : a ≠ L) (h2 : g.get? a = none) (h3 : h.get? a = some o) : (a, o) ∈ allNews g h L :=
  List.mem_filterMap.mpr ⟨a, List.mem_range.mpr (Heap.lt_size h3), by simp [h1, h2, h3]⟩
theorem of_mem_allNews {g h : Heap} {L : Addr} {p : Addr × Obj} (hp : p ∈ allNews g h L) : p.1 ≠ L ∧ g.get? p.1 = none ∧ h.get? p.1 = some p.2 := by
  obtain ⟨b, _, e⟩ := List.mem_filterMap.mp hp
  split at e
  · cases e
  · rename_i hn
    cases q : h.get? b with
    | none => rw [q] at e; simp at e
    | some u =>
      rw [q] at e
      simp only [Option.map_some, Option.some.injEq] at e
      subst e
      refine ⟨fun z => hn (.inl z), ?_, q⟩
      show g.get? b = none
      cases r : g.get? b with
      | none => rfl
      | some v => exact (hn (.inr (by simp [r]))).elim
def rest (g h : Heap) (L d : Addr) : List (Addr × Obj) := (allNews g h L).filter fun p => decide (p.1 ≠ d)
theorem rest_ne {g h : Heap} {L d : Addr} : ∀ p ∈ rest g h L d, p.1 ≠ d := fun p hp => of_decide_eq_true (List.mem_filter.mp hp).2
theorem mem_rest {g h : Heap} {L d a : Addr} {o : Obj} (h1 : a ≠ L) (h2 : g.get? a = none) (h3 : h.get? a = some o) (h4 : a ≠ d) : (a, o) ∈ rest g h L d :=
  List.mem_filter.mpr ⟨mem_allNews h1 h2 h3, decide_eq_true h4⟩
theorem news_all {g h : Heap} {L : Addr} : News g L h (allNews g h L) := fun p hp => let ⟨a, b, c⟩ := of_mem_allNews hp; ⟨c, a, b⟩
theorem news_at {g h : Heap} {L d : Addr} {o : Obj} (h1 : d ≠ L) (h2 : g.get? d = none) (h3 : h.get? d = some o) : News g L h ((d, o) :: rest g h L d) := fun p hp => by
  rcases List.mem_cons.mp hp with rfl | hp
  · exact ⟨h3, h1, h2⟩
  · exact news_all p (List.mem_filter.mp hp).1
/-- behind a rule that changed d alone: all else but the frame is kept -/
theorem kept_of_news {g h h' : Heap} {L d : Addr} {m : Str → Option Value} (k : ∀ b o, g.get? b = some o → h.get? b = some o) (F : Fr g L h' m) (N : News g L h' (rest g h L d)) :
    ∀ b o, b ≠ L → b ≠ d → h.get? b = some o → h'.get? b = some o := fun b o h1 h2 e => by
  cases q : g.get? b with
  | some u =>
    have := k b u q
    rw [e] at this; cases this
    exact F.keep b _ q
  | none => exact (N (b, o) (mem_rest h1 q e h2)).1
end L2

namespace L2
open PySem PySem.Spec PyProof.Rows

/-- the module's facts, over the base: the heap at the law's entry without what is tracked there -/
structure Mod (K : PySem.W.Frag) (mg : Str → Option Value) (base : Heap) : Prop where
  kin : K.In base
  glob : base.Ns mainGlobals mg
  blt : ∃ mb, base.Ns builtinsNs mb ∧ ∀ x : Str, x ≠ "__name__" → mb x = bootBuiltins x
  nolimit : base.NoLimit

/-- the context: a def's body (or a comprehension's block) running. base: fixed through the whole law; s₀, H₀: the entry; outer: the frames whose slots others may change (a def's callers); stack: all frames that run;
   ex: iterators that were made ahead of the entry and are walked here (a comprehension's); fn: the names whose cells were made at the entry (a def: all; a comprehension's block: its own); calm: not within an except suite; pn: pins that every state bears; xe: what is wanted of an exception that leaves the code -/
structure Cx where
  prog : Program
  w : World
  K : PySem.W.Frag
  mg : Str → Option Value
  base : Heap
  A : Around
  N : List Str
  s₀ : Shared
  H₀ : Hp
  env : Env
  outer : List Env
  stack : List Env
  ex : List Addr
  fn : Str → Bool
  calm : Bool
  pn : List (Addr × Obj)
  xe : Value → Shared → Prop
/-- the callers' frames -/
def frs (l : List Env) : List Addr := l.filterMap (·.frame)
abbrev Cx.fs (X : Cx) : List Addr := frs X.outer

def Vis (sc : Scope) (x : Str) : Prop := sc.names.lookup x = some .local ∨ sc.names.lookup x = some .cell ∨ sc.names.lookup x = some .free
def Loc (sc : Scope) (x : Str) : Prop := sc.names.lookup x = some .local ∨ sc.names.lookup x = some .cell
def Look (env : Env) (h : Heap) (m : Str → Option Value) (x : Str) (u : Value) : Prop :=
  (env.kindOf x = some .local ∧ m x = some u) ∨ ((env.kindOf x = some .cell ∨ env.kindOf x = some .free) ∧ ∃ c, env.cells.lookup x = some c ∧ h.IsCell c (some u))

structure Cx.Ok (X : Cx) : Prop where
  mod : Mod X.K X.mg X.base
  kind : X.env.scope.kind = .function
  glob : X.env.globals = mainGlobals
  blt : X.env.builtins = builtinsNs
  above : X.s₀.heap.objs.size ≤ X.env.locals
  inj : ∀ x y c, X.env.cells.lookup x = some c → X.env.cells.lookup y = some c → x = y
  has : ∀ x, (X.env.kindOf x = some .cell ∨ X.env.kindOf x = some .free) → ∃ c, X.env.cells.lookup x = some c
  cab : ∀ x c, X.fn x = true → X.env.cells.lookup x = some c → X.s₀.heap.objs.size ≤ c
  hd : X.calm = true → X.A.handled = none
  frames : X.A.frames = some X.stack
  stk : X.stack = X.outer ∨ (X.stack = X.env :: X.outer ∧ X.env.frame = some X.env.locals)
  exf : ∀ b ∈ X.ex, b ≠ X.env.locals ∧ ∀ x c, X.env.cells.lookup x = some c → c ≠ b
  bs : ∀ b o, X.base.get? b = some o → X.s₀.heap.get? b = some o ∧ X.H₀ b = none
  bsz : X.base.objs.size ≤ X.s₀.heap.objs.size
  noex : ∀ b o, X.base.get? b = some o → b ∉ X.ex
  exfs : ∀ b ∈ X.ex, b ∉ X.fs
  funs : X.s₀.heap.FunFrames X.base X.outer
  frf : ∀ b ∈ X.fs, X.H₀ b = none

structure Inv (X : Cx) (pins : List (Addr × Obj)) (σ : List (Option V)) (H : Hp) (s : Shared) : Prop where
  ok : X.Ok
  os : s.os = X.s₀.os
  bare : AllBare s.gens
  base : Un X.fs X.ex X.H₀ H X.s₀.heap s.heap
  loc : ∃ m, s.heap.Ns X.env.locals m ∧ ∀ (i : Nat) (x : Str) (v : V), X.N[i]? = some x → σ[i]? = some (some v) → Vis X.env.scope x → ∃ u, RelV v u ∧ Look X.env s.heap m x u
  cell : ∀ x c, X.env.cells.lookup x = some c → ∃ v, s.heap.IsCell c v
  free : H X.env.locals = none
  freeC : ∀ x c, X.env.cells.lookup x = some c → H c = none
  pin : ∀ p ∈ X.pn ++ pins, s.heap.get? p.1 = some p.2 ∧ H p.1 = none ∧ p.1 ≠ X.env.locals ∧ p.1 ∉ X.fs ∧ ∀ v, p.2.data ≠ .cell v
  hok : HOk X.prog X.w H s.heap
  len : σ.length = X.N.length

section
variable {X : Cx} {pins : List (Addr × Obj)} {σ : List (Option V)} {H H' : Hp} {s : Shared} {h' : Heap}

theorem Cx.Ok.nofr (ok : X.Ok) {b : Addr} {o : Obj} (e : X.base.get? b = some o) : b ∉ X.fs := fun hb => by
  have := (ok.funs.mem hb).1
  rw [e] at this; cases this
theorem Inv.bs (I : Inv X pins σ H s) : ∀ b o, X.base.get? b = some o → s.heap.get? b = some o ∧ H b = none := fun b o e =>
  ⟨I.base.keep b o (I.ok.bs b o e).1 (I.ok.bs b o e).2 (I.ok.nofr e) (I.ok.noex b o e), I.base.free b o (I.ok.bs b o e).1 (I.ok.bs b o e).2 (I.ok.noex b o e)⟩
theorem Inv.bk (I : Inv X pins σ H s) : ∀ b o, X.base.get? b = some o → s.heap.get? b = some o := fun b o e => (I.bs b o e).1
theorem Inv.mod (I : Inv X pins σ H s) : Mod X.K X.mg X.base := I.ok.mod
theorem Inv.kIn (I : Inv X pins σ H s) : X.K.In s.heap := I.ok.mod.kin.keeps I.bk
theorem Inv.nolimit (I : Inv X pins σ H s) : s.heap.NoLimit := I.ok.mod.nolimit.keeps I.bk
/-- the frame over the base: for OpenK's rules (K.In X.base is I.mod.kin) -/
theorem Inv.fr (I : Inv X pins σ H s) : ∃ m, Fr X.base X.env.locals s.heap m :=
  let ⟨m, hn, _⟩ := I.loc
  ⟨m, hn, I.bk, Nat.le_trans I.ok.bsz I.ok.above⟩
theorem Inv.lt (I : Inv X pins σ H s) : X.env.locals < s.heap.objs.size := let ⟨_, hn, _⟩ := I.loc; hn.lt
theorem Inv.sz (I : Inv X pins σ H s) : X.s₀.heap.objs.size ≤ s.heap.objs.size := Nat.le_trans I.ok.above (Nat.le_of_lt I.lt)
theorem Inv.nofs (I : Inv X pins σ H s) {a : Addr} (h : s.heap.objs.size ≤ a) : a ∉ X.fs := fun hb => by
  obtain ⟨_, o, ho, _⟩ := I.ok.funs.mem hb
  exact absurd (Nat.lt_of_lt_of_le (Heap.lt_size ho) (Nat.le_trans I.sz h)) (Nat.lt_irrefl _)
theorem Inv.cne (I : Inv X pins σ H s) : ∀ x c, X.env.cells.lookup x = some c → c ≠ X.env.locals := fun x c e z => by
  obtain ⟨v, o, ho, hd⟩ := I.cell x c e
  obtain ⟨m, ⟨o', es, ep, ho', hd', _⟩, _⟩ := I.loc
  rw [z, ho'] at ho; cases ho; rw [hd'] at hd; cases hd
theorem Inv.funs (I : Inv X pins σ H s) : s.heap.FunFrames X.base X.outer := by
  have all : ∀ (l : List Env), (∀ b ∈ frs l, b ∈ X.fs) → X.s₀.heap.FunFrames X.base l → s.heap.FunFrames X.base l := by
    intro l
    induction l with
    | nil => intro _ _; trivial
    | cons env r ih =>
      intro hs hl
      obtain ⟨hk, ⟨L, o, hf, hn, ho, hd⟩, hr⟩ := hl
      have hL : L ∈ X.fs := hs L (by unfold frs; rw [List.filterMap_cons, hf]; exact List.mem_cons_self)
      obtain ⟨sl, e⟩ := I.base.slot L o ho (I.ok.frf L hL) hL fun z => I.ok.exfs L z hL
      exact ⟨hk, ⟨L, _, hf, hn, e, hd⟩, ih (fun b hb => hs b (by unfold frs; rw [List.filterMap_cons, hf]; exact List.mem_cons_of_mem _ hb)) hr⟩
  exact all X.outer (fun _ hb => hb) I.ok.funs

/-- the frames that run, for a call -/
theorem Inv.stack (I : Inv X pins σ H s) : s.heap.FunFrames X.base X.stack := by
  rcases I.ok.stk with e | ⟨e, hf⟩
  · rw [e]; exact I.funs
  · rw [e]
    obtain ⟨m, hn, _⟩ := I.loc
    refine .cons (by rw [I.ok.kind]; decide) hf hn ?_ I.funs
    exact Heap.get?_none_of_le (Nat.le_trans I.ok.bsz I.ok.above)
theorem Inv.stkSub (I : Inv X pins σ H s) : ∀ b ∈ frs X.stack, b ∈ X.env.locals :: X.fs := fun b hb => by
  rcases I.ok.stk with e | ⟨e, hf⟩
  · rw [e] at hb; exact List.mem_cons_of_mem _ hb
  · rw [e] at hb
    unfold frs at hb
    rw [List.filterMap_cons, hf] at hb
    exact hb
theorem Inv.stkFree (I : Inv X pins σ H s) : ∀ b ∈ frs X.stack, H b = none := fun b hb => by
  rcases List.mem_cons.mp (I.stkSub b hb) with e | hb
  · rw [e]; exact I.free
  · obtain ⟨_, o, ho, _⟩ := I.ok.funs.mem hb
    exact I.base.free b o ho (I.ok.frf b hb) fun z => I.ok.exfs b z hb

/-- THE STEP: the untracked objects but the frame and the records at ch are kept (the callers' frames up to slots), the frame's map is kept, the new abstract heap is held -/
theorem Inv.step {g' : Array GenState} {t' : Nat} {d' : Drawn} {ch : List Addr} (I : Inv X pins σ H s)
    (hch : ∀ b ∈ ch, (b ∈ X.ex ∨ X.s₀.heap.objs.size ≤ b) ∧ b ≠ X.env.locals ∧ (∀ x c, X.env.cells.lookup x = some c → c ≠ b) ∧ ∀ p ∈ X.pn ++ pins, p.1 ≠ b)
    (keep : ∀ b o, b ≠ X.env.locals → b ∉ X.fs → b ∉ ch → s.heap.get? b = some o → H b = none → h'.get? b = some o)
    (slot : ∀ b o, b ≠ X.env.locals → b ∈ X.fs → b ∉ ch → s.heap.get? b = some o → H b = none → ∃ sl, h'.get? b = some { o with slots := sl }) (free : ∀ b o, b ∉ ch → s.heap.get? b = some o → H b = none → H' b = none)
    (there : ∀ b o, b ∉ ch → s.heap.get? b = some o → ∃ o', h'.get? b = some o')
    (tups : ∀ b xs, H b = some (.tup xs) → H' b = some (.tup xs)) (frzs : ∀ b o u, H b = some (.frz o u) → H' b = some (.frz o u)) (tbls : ∀ b ps, H b = some (.tbl ps) → ∃ more, H' b = some (.tbl (ps ++ more)))
    (ns : ∀ m, s.heap.Ns X.env.locals m → h'.Ns X.env.locals m) (hok : HOk X.prog X.w H' h') (hg : AllBare g') :
    Inv X pins σ H' { s with heap := h', gens := g', drawn := d', toks := t' } := by
  have neL : ∀ b o, X.s₀.heap.get? b = some o → b ≠ X.env.locals := fun b o e => Nat.ne_of_lt (Nat.lt_of_lt_of_le (Heap.lt_size e) I.ok.above)
  have neC : ∀ b o, X.s₀.heap.get? b = some o → b ∉ X.ex → b ∉ ch := fun b o e hx hb => by
    rcases (hch b hb).1 with z | z
    · exact hx z
    · exact absurd (Nat.lt_of_lt_of_le (Heap.lt_size e) z) (Nat.lt_irrefl _)
  have cellK : ∀ x c, X.env.cells.lookup x = some c → ∀ v, s.heap.IsCell c v → h'.IsCell c v := fun x c e v ⟨o, ho, hd⟩ => by
    have nch : c ∉ ch := fun z => (hch c z).2.2.1 x c e rfl
    by_cases hc : c ∈ X.fs
    · obtain ⟨sl, q⟩ := slot c o (I.cne x c e) hc nch ho (I.freeC x c e)
      exact ⟨_, q, hd⟩
    · exact ⟨o, keep c o (I.cne x c e) hc nch ho (I.freeC x c e), hd⟩
  refine ⟨I.ok, I.os, hg, ⟨fun b o e n hb hx => ?_, fun b o e n hb hx => ?_, fun b o e n hx => ?_, fun b o e hx => ?_, fun b xs e => tups b xs (I.base.tups b xs e), fun b o xs e => frzs b o xs (I.base.frzs b o xs e), fun b ps e => ?_⟩, ?_, fun x c e => ?_, ?_, fun x c e => ?_, fun p hp => ?_, hok, I.len⟩
  · exact keep b o (neL b o e) hb (neC b o e hx) (I.base.keep b o e n hb hx) (I.base.free b o e n hx)
  · obtain ⟨sl, e1⟩ := I.base.slot b o e n hb hx
    obtain ⟨sl', e2⟩ := slot b _ (neL b o e) hb (neC b o e hx) e1 (I.base.free b o e n hx)
    exact ⟨sl', e2⟩
  · obtain ⟨o', e1⟩ := I.base.there b o e hx
    exact free b o' (neC b o e hx) e1 (I.base.free b o e n hx)
  · obtain ⟨o', e1⟩ := I.base.there b o e hx
    exact there b o' (neC b o e hx) e1
  · obtain ⟨m1, e1⟩ := I.base.tbls b ps e
    obtain ⟨m2, e2⟩ := tbls b _ e1
    exact ⟨m1 ++ m2, by rw [e2, Array.append_assoc]⟩
  · obtain ⟨m, hn, hl⟩ := I.loc
    refine ⟨m, ns m hn, fun i x v e1 e2 e3 => ?_⟩
    obtain ⟨u, r, l⟩ := hl i x v e1 e2 e3
    refine ⟨u, r, ?_⟩
    rcases l with l | ⟨k, c, e, z⟩
    · exact .inl l
    · exact .inr ⟨k, c, e, cellK x c e _ z⟩
  · obtain ⟨v, z⟩ := I.cell x c e
    exact ⟨v, cellK x c e v z⟩
  · obtain ⟨m, ⟨o, _, _, ho, _⟩, _⟩ := I.loc
    exact free _ o (fun z => (hch _ z).2.1 rfl) ho I.free
  · obtain ⟨v, o, ho, hd⟩ := I.cell x c e
    exact free c o (fun z => (hch c z).2.2.1 x c e rfl) ho (I.freeC x c e)
  · obtain ⟨e, n, ne, nf, d⟩ := I.pin p hp
    have nch : p.1 ∉ ch := fun z => (hch p.1 z).2.2.2 p hp rfl
    exact ⟨keep p.1 p.2 ne nf nch e n, free p.1 p.2 nch e n, ne, nf, d⟩
/-- .. where the frame's own object is kept too -/
theorem Inv.un {t' : Nat} (I : Inv X pins σ H s) (u : Un X.fs [] H H' s.heap h') (hok : HOk X.prog X.w H' h') : Inv X pins σ H' { s with heap := h', toks := t' } := by
  obtain ⟨m, ⟨o, es, ep, ho, r⟩, _⟩ := id I.loc
  obtain ⟨sl, hL⟩ := u.any ho I.free (by simp)
  exact I.step (g' := s.gens) (d' := s.drawn) (ch := []) (fun _ z => nomatch z) (fun b o _ hb _ e n => u.keep b o e n hb (by simp)) (fun b o _ hb _ e n => u.slot b o e n hb (by simp)) (fun b o _ e n => u.free b o e n (by simp)) (fun b o _ e => u.there b o e (by simp)) u.tups u.frzs u.tbls (fun m' hm => by
    obtain ⟨o', es', ep', ho', r'⟩ := hm
    rw [ho] at ho'; cases ho'
    exact ⟨_, es', ep', hL, r'⟩) hok I.bare
/-- behind a call (or a comprehension's block): the slots of this frame may have changed too, the records at ch may have turned -/
theorem Inv.call {g' : Array GenState} {t' : Nat} {d' : Drawn} {ch : List Addr} (I : Inv X pins σ H s) (u : Un (frs X.stack) ch H H' s.heap h') (hok : HOk X.prog X.w H' h') (hg : AllBare g')
    (hch : ∀ b ∈ ch, (b ∈ X.ex ∨ X.s₀.heap.objs.size ≤ b) ∧ b ≠ X.env.locals ∧ (∀ x c, X.env.cells.lookup x = some c → c ≠ b) ∧ ∀ p ∈ X.pn ++ pins, p.1 ≠ b) :
    Inv X pins σ H' { s with heap := h', gens := g', drawn := d', toks := t' } := by
  obtain ⟨m, ⟨o, es, ep, ho, r⟩, _⟩ := id I.loc
  obtain ⟨sl, hL⟩ := u.any ho I.free fun z => (hch _ z).2.1 rfl
  exact I.step (ch := ch) hch (fun b o hL hb hc e n => u.keep b o e n (fun z => (List.mem_cons.mp (I.stkSub b z)).elim hL hb) hc) (fun b o _ _ hc e n => u.any e n hc) (fun b o hc e n => u.free b o e n hc) (fun b o hc e => u.there b o e hc) u.tups u.frzs u.tbls (fun m' hm => by
    obtain ⟨o', es', ep', ho', r'⟩ := hm
    rw [ho] at ho'; cases ho'
    exact ⟨_, es', ep', hL, r'⟩) hok hg
/-- an untracked record of ours (an iterator) has turned -/
theorem Inv.turned {t' : Nat} {it : Addr} (I : Inv X pins σ H s) (k : ∀ b o, b ≠ it → s.heap.get? b = some o → h'.get? b = some o) (hn : H it = none) (hL : it ≠ X.env.locals)
    (h1 : it ∈ X.ex ∨ X.s₀.heap.objs.size ≤ it) (h2 : ∀ x c, X.env.cells.lookup x = some c → c ≠ it) (h3 : ∀ p ∈ X.pn ++ pins, p.1 ≠ it) : Inv X pins σ H { s with heap := h', toks := t' } := by
  have nit : ∀ b u, H b = some u → b ≠ it := fun b u e z => by rw [z, hn] at e; cases e
  refine I.step (g' := s.gens) (d' := s.drawn) (ch := [it]) (fun b hb => ?_) (fun b o _ _ hc e _ => k b o (fun z => hc (by simp [z])) e) (fun b o _ _ hc e _ => ⟨o.slots, k b o (fun z => hc (by simp [z])) e⟩) (fun _ _ _ _ n => n)
    (fun b o hc e => ⟨o, k b o (fun z => hc (by simp [z])) e⟩) (fun _ _ e => e) (fun _ _ _ e => e) (fun b ps e => ⟨#[], by rw [e]; simp⟩) (fun m hm => ?_) (fun b u e => ?_) I.bare
  · have e : b = it := by simpa using hb
    subst e
    exact ⟨h1, hL, h2, h3⟩
  · obtain ⟨o, es, ep, ho, r⟩ := hm
    exact ⟨o, es, ep, k _ o (Ne.symm hL) ho, r⟩
  · refine (I.hok b u e).stay (fun c v hc q => k c v ?_ q) (fun _ q => q) fun _ _ q => q
    rcases hc with z | z
    · rw [z]; exact nit b u e
    · exact nit c _ z
theorem Inv.tok (I : Inv X pins σ H s) (t : Nat) : Inv X pins σ H { s with toks := t } := I.un (h' := s.heap) (t' := t) Un.refl I.hok
/-- all objects kept -/
theorem Inv.kept {t' : Nat} (I : Inv X pins σ H s) (k : ∀ b u, s.heap.get? b = some u → h'.get? b = some u) : Inv X pins σ H { s with heap := h', toks := t' } := I.un (Un.kept k) (I.hok.kept k)
/-- a new object laid and tracked -/
theorem Inv.laid {a : Addr} {o : HO} {t' : Nat} (I : Inv X pins σ H s) (k : ∀ b u, s.heap.get? b = some u → h'.get? b = some u) (hp : s.heap.objs.size ≤ a) (new : ObjOk X.prog X.w (upd H a o) h' a o) :
    Inv X pins σ (upd H a o) { s with heap := h', toks := t' } := I.un (Un.laid k hp (I.hok.fresh hp)) (I.hok.laid k hp new)
/-- an object written -/
theorem Inv.write {x e : Addr} {o : HO} {t' : Nat} (I : Inv X pins σ H s) (mu : Mut (H x)) (he : e = x ∨ H e = some (.own x)) (k : ∀ b u, b ≠ e → s.heap.get? b = some u → h'.get? b = some u) (heo : ∃ u, h'.get? e = some u)
    (new : ObjOk X.prog X.w (upd H x o) h' x o) : Inv X pins σ (upd H x o) { s with heap := h', toks := t' } := I.un (Un.write mu he k heo) (I.hok.write mu he k heo new)
/-- forgetting slots, pins -/
theorem Inv.weak {σ' : List (Option V)} (I : Inv X pins σ H s) (hl : σ'.length = σ.length) (w : ∀ (i : Nat) v, σ'[i]? = some (some v) → σ[i]? = some (some v)) : Inv X pins σ' H s :=
  ⟨I.ok, I.os, I.bare, I.base, let ⟨m, hn, hl'⟩ := I.loc; ⟨m, hn, fun i x v e1 e2 e3 => hl' i x v e1 (w i v e2) e3⟩, I.cell, I.free, I.freeC, I.pin, I.hok, hl.trans I.len⟩
theorem Inv.pins_of {pins' : List (Addr × Obj)} (I : Inv X pins σ H s) (h : ∀ p ∈ pins', s.heap.get? p.1 = some p.2 ∧ H p.1 = none ∧ p.1 ≠ X.env.locals ∧ p.1 ∉ X.fs ∧ ∀ v, p.2.data ≠ .cell v) : Inv X pins' σ H s :=
  ⟨I.ok, I.os, I.bare, I.base, I.loc, I.cell, I.free, I.freeC, fun p hp => (List.mem_append.mp hp).elim (fun z => I.pin p (List.mem_append_left _ z)) (h p), I.hok, I.len⟩

theorem nodup_ix {N : List Str} (hN : N.Nodup) {i j : Nat} {x : Str} (a : N[i]? = some x) (b : N[j]? = some x) : i = j := by
  obtain ⟨h1, e1⟩ := List.getElem?_eq_some_iff.mp a
  obtain ⟨h2, e2⟩ := List.getElem?_eq_some_iff.mp b
  exact (List.getElem_inj hN).mp (e1.trans e2.symm)

/-- a name is stored; what changed -/
theorem store_ok2 {M : Model} {A : Around} {E : Value → Shared → Prop} {i : Nat} {x : Str} {v : V} {u : Value} {Q : Unit → Shared → Prop} (I : Inv X pins σ H s) (hN : X.N.Nodup) (hi : X.N[i]? = some x) (hx : Loc X.env.scope x) (r : RelV v u)
    (h : ∀ s', Inv X pins (σ.set i (some v)) H s' → (∃ a, Heap.SameBut a s.heap s'.heap ∧ (a = X.env.locals ∨ X.env.cells.lookup x = some a)) → Q () s') (hf : X.fn x = true ∨ X.env.scope.names.lookup x = some .local := by first | exact .inl rfl | exact .inr rfl | assumption) : wpAny M A (storeName X.env x u) Q E s := by
  obtain ⟨m, hn, hl⟩ := id I.loc
  have hcls : (X.env.scope.kind == .class || (X.env.scope.kind == .module && X.env.locals != X.env.globals)) = false := by rw [I.ok.kind]; rfl
  have hiσ : i < σ.length := by rw [I.len]; exact (List.getElem?_eq_some_iff.mp hi).1
  have cne := I.cne
  have tracked : ∀ {a : Addr} {h' : Heap}, (∃ o, s.heap.get? a = some o ∧ H a = none) → Heap.SameBut a s.heap h' → HOk X.prog X.w H h' := fun {a h'} ha hs b ob e => by
    obtain ⟨_, _, hfree⟩ := ha
    refine (I.hok b ob e).stay (fun c w' hc q => (hs.2 c ?_).trans q) (fun _ q => q) fun _ _ q => q
    rintro rfl
    rcases hc with rfl | hc
    · rw [hfree] at e; cases e
    · rw [hfree] at hc; cases hc
  rcases hx with hk | hk
  · refine wpAny_storeName_local hk hn (fun h' hn' hs => ?_) hcls
    obtain ⟨oL, _, _, hoL, _⟩ := id hn
    refine h _ ⟨I.ok, I.os, I.bare, ⟨fun b o e n hb hx => ?_, fun b o e n hb hx => ?_, I.base.free, fun b o e hx => ?_, I.base.tups, I.base.frzs, I.base.tbls⟩, ⟨_, hn', fun j y v' e1 e2 e3 => ?_⟩, fun y c e => ?_, I.free, I.freeC, fun p hp => ?_, tracked ⟨oL, hoL, I.free⟩ hs, by simpa using I.len⟩ ⟨_, hs, .inl rfl⟩
    · exact (hs.2 b (Nat.ne_of_lt (Nat.lt_of_lt_of_le (Heap.lt_size e) I.ok.above))).trans (I.base.keep b o e n hb hx)
    · obtain ⟨sl, e1⟩ := I.base.slot b o e n hb hx
      exact ⟨sl, (hs.2 b (Nat.ne_of_lt (Nat.lt_of_lt_of_le (Heap.lt_size e) I.ok.above))).trans e1⟩
    · obtain ⟨o', e1⟩ := I.base.there b o e hx
      exact ⟨o', (hs.2 b (Nat.ne_of_lt (Nat.lt_of_lt_of_le (Heap.lt_size e) I.ok.above))).trans e1⟩
    · by_cases hj : j = i
      · subst hj
        rw [hi] at e1; cases e1
        rw [List.getElem?_set_self hiσ] at e2
        cases e2
        exact ⟨u, r, .inl ⟨hk, by simp⟩⟩
      · rw [List.getElem?_set_ne (Ne.symm hj)] at e2
        obtain ⟨u', r', q⟩ := hl j y v' e1 e2 e3
        refine ⟨u', r', ?_⟩
        rcases q with ⟨k, e⟩ | ⟨k, c, e, z⟩
        · refine .inl ⟨k, ?_⟩
          have : y ≠ x := fun e => hj (nodup_ix hN e1 (e ▸ hi))
          simp [this, e]
        · exact .inr ⟨k, c, e, z.sameBut hs (cne y c e)⟩
    · obtain ⟨w', z⟩ := I.cell y c e
      exact ⟨w', z.sameBut hs (cne y c e)⟩
    · obtain ⟨e, n, ne, nf, d⟩ := I.pin p hp
      exact ⟨(hs.2 p.1 ne).trans e, n, ne, nf, d⟩
  · have hfn : X.fn x = true := by
      rcases hf with z | z
      · exact z
      · rw [z] at hk; cases hk
    obtain ⟨c, hc⟩ := I.ok.has x (.inl hk)
    obtain ⟨w', z⟩ := I.cell x c hc
    refine wpAny_storeName_cell I.ok.kind hk hc z (fun h' hc' hs => ?_)
    obtain ⟨oc, hoc, hocd⟩ := id z
    refine h { s with heap := h' } ⟨I.ok, I.os, I.bare, ⟨fun b o e n hb hx => ?_, fun b o e n hb hx => ?_, I.base.free, fun b o e hx => ?_, I.base.tups, I.base.frzs, I.base.tbls⟩, ⟨m, hn.sameBut hs (Ne.symm (cne x c hc)), fun j y v' e1 e2 e3 => ?_⟩, fun y c' e => ?_, I.free, I.freeC, fun p hp => ?_, tracked ⟨oc, hoc, I.freeC x c hc⟩ hs, by simpa using I.len⟩ ⟨c, hs, .inr hc⟩
    · exact (hs.2 b (Nat.ne_of_lt (Nat.lt_of_lt_of_le (Heap.lt_size e) (I.ok.cab x c hfn hc)))).trans (I.base.keep b o e n hb hx)
    · obtain ⟨sl, e1⟩ := I.base.slot b o e n hb hx
      exact ⟨sl, (hs.2 b (Nat.ne_of_lt (Nat.lt_of_lt_of_le (Heap.lt_size e) (I.ok.cab x c hfn hc)))).trans e1⟩
    · obtain ⟨o', e1⟩ := I.base.there b o e hx
      exact ⟨o', (hs.2 b (Nat.ne_of_lt (Nat.lt_of_lt_of_le (Heap.lt_size e) (I.ok.cab x c hfn hc)))).trans e1⟩
    · by_cases hj : j = i
      · subst hj
        rw [hi] at e1; cases e1
        rw [List.getElem?_set_self hiσ] at e2
        cases e2
        exact ⟨u, r, .inr ⟨.inl hk, c, hc, hc'⟩⟩
      · rw [List.getElem?_set_ne (Ne.symm hj)] at e2
        obtain ⟨u', r', q⟩ := hl j y v' e1 e2 e3
        refine ⟨u', r', ?_⟩
        rcases q with q | ⟨k, c', e, z'⟩
        · exact .inl q
        · refine .inr ⟨k, c', e, z'.sameBut hs ?_⟩
          rintro rfl
          exact hj (nodup_ix hN e1 (I.ok.inj _ _ _ e hc ▸ hi))
    · by_cases hcc : c' = c
      · subst hcc; exact ⟨_, hc'⟩
      · obtain ⟨w2, z2⟩ := I.cell y c' e
        exact ⟨w2, z2.sameBut hs hcc⟩
    · obtain ⟨e, n, ne, nf, d⟩ := I.pin p hp
      refine ⟨(hs.2 p.1 ?_).trans e, n, ne, nf, d⟩
      intro q
      rw [q, hoc] at e
      have q' : oc = p.2 := Option.some.inj e
      exact d w' (by rw [← q']; exact hocd)
theorem store_ok {M : Model} {A : Around} {E : Value → Shared → Prop} {i : Nat} {x : Str} {v : V} {u : Value} {Q : Unit → Shared → Prop} (I : Inv X pins σ H s) (hN : X.N.Nodup) (hi : X.N[i]? = some x) (hx : Loc X.env.scope x) (r : RelV v u)
    (h : ∀ s', Inv X pins (σ.set i (some v)) H s' → Q () s') (hf : X.fn x = true ∨ X.env.scope.names.lookup x = some .local := by first | exact .inl rfl | exact .inr rfl | assumption) : wpAny M A (storeName X.env x u) Q E s :=
  store_ok2 I hN hi hx r (fun s' I' _ => h s' I') hf
/-- behind a call or a block, the state as it is -/
theorem Inv.call' {s' : Shared} {ch : List Addr} (I : Inv X pins σ H s) (ho : s'.os = s.os) (u : Un (frs X.stack) ch H H' s.heap s'.heap) (hok : HOk X.prog X.w H' s'.heap) (hg : AllBare s'.gens)
    (hch : ∀ b ∈ ch, (b ∈ X.ex ∨ X.s₀.heap.objs.size ≤ b) ∧ b ≠ X.env.locals ∧ (∀ x c, X.env.cells.lookup x = some c → c ≠ b) ∧ ∀ p ∈ X.pn ++ pins, p.1 ≠ b) : Inv X pins σ H' s' := by
  obtain ⟨h', g', d', t', o'⟩ := s'
  have e : o' = s.os := ho
  subst e
  exact I.call (g' := g') (t' := t') (d' := d') u hok hg hch
end

/-! ### the judgements -/
/-- an exception: its class, its own dict's address (where it has one), the abstract heap behind it -/
abbrev XK := Value → Option Addr → Hp → Prop
abbrev St := List (Option V)
abbrev VK := V → Hp → Prop
/-- an expression's reading; a test's; an argument list's -/
abbrev TE := St → Hp → VK → Prop
abbrev TT := St → Hp → (Bool → Hp → Prop) → Prop
abbrev TA := St → Hp → (List V → Hp → Prop) → Prop
/-- what is wanted behind a statement -/
structure Ends where
  nx : St → Hp → Prop
  rt : VK
  bk : St → Hp → Prop := fun _ _ => False
  ct : St → Hp → Prop := fun _ _ => False
abbrev TS := Ends → St → Hp → Prop

def EP (X : Cx) (pins : List (Addr × Obj)) (σ : St) (Q : VK) (u : Value) (s' : Shared) : Prop := ∃ v H', Inv X pins σ H' s' ∧ RelV v u ∧ Q v H'
def TP (X : Cx) (pins : List (Addr × Obj)) (σ : St) (Q : Bool → Hp → Prop) (b : Bool) (s' : Shared) : Prop := ∃ H', Inv X pins σ H' s' ∧ Q b H'
def AP (X : Cx) (pins : List (Addr × Obj)) (σ : St) (Q : List V → Hp → Prop) (us : List Value) (s' : Shared) : Prop := ∃ vs H', Inv X pins σ H' s' ∧ Vals vs us ∧ Q vs H'
def SP (X : Cx) (pins : List (Addr × Obj)) (D : Ends) (f : Flow) (s' : Shared) : Prop :=
  match f with
  | .next => ∃ σ' H', Inv X pins σ' H' s' ∧ D.nx σ' H'
  | .brk => ∃ σ' H', Inv X pins σ' H' s' ∧ D.bk σ' H'
  | .cont => ∃ σ' H', Inv X pins σ' H' s' ∧ D.ct σ' H'
  | .ret u => ∃ v σ' H', Inv X pins σ' H' s' ∧ RelV v u ∧ D.rt v H'

def PE (X : Cx) (e : Expr) (t : TE) : Prop :=
  ∀ (pins : List (Addr × Obj)) (s : Shared) (σ : St) (H : Hp) (Q : VK), Inv X pins σ H s → t σ H Q → wpAny (model X.prog X.w) X.A (eval e X.env) (EP X pins σ Q) X.xe s
def PT (X : Cx) (e : Expr) (t : TT) : Prop :=
  ∀ (pins : List (Addr × Obj)) (s : Shared) (σ : St) (H : Hp) (Q : Bool → Hp → Prop), Inv X pins σ H s → t σ H Q → wpAny (model X.prog X.w) X.A (isTrue e X.env (eval e X.env)) (TP X pins σ Q) X.xe s
/-- a test whatever its 'whole' is (and, or) -/
def PW (X : Cx) (e : Expr) (t : TT) : Prop :=
  ∀ (whole : Sem Value) (pins : List (Addr × Obj)) (s : Shared) (σ : St) (H : Hp) (Q : Bool → Hp → Prop), Inv X pins σ H s → t σ H Q → wpAny (model X.prog X.w) X.A (isTrue e X.env whole) (TP X pins σ Q) X.xe s
theorem PW.pt {X : Cx} {e : Expr} {t : TT} (h : PW X e t) : PT X e t := h _
/-- an argument list (no star), from the left -/
def PA (X : Cx) (es : List Expr) (t : TA) : Prop :=
  ∀ (pos : Pos) (pins : List (Addr × Obj)) (s : Shared) (σ : St) (H : Hp) (Q : List V → Hp → Prop), Inv X pins σ H s → t σ H Q → wpAny (model X.prog X.w) X.A (spliced (backTo pos (starEach es X.env))) (AP X pins σ Q) X.xe s
def PS (X : Cx) (st : Stmt) (t : TS) : Prop :=
  ∀ (pins : List (Addr × Obj)) (s : Shared) (σ : St) (H : Hp) (D : Ends), Inv X pins σ H s → t D σ H → wpAny (model X.prog X.w) X.A (exec st X.env) (SP X pins D) X.xe s
def PSs (X : Cx) (st : List Stmt) (t : TS) : Prop :=
  ∀ (pins : List (Addr × Obj)) (s : Shared) (σ : St) (H : Hp) (D : Ends), Inv X pins σ H s → t D σ H → wpAny (model X.prog X.w) X.A (execs st X.env) (SP X pins D) X.xe s
/-- weaken the end -/
theorem thn {α : Type} {t : Sem α} {Q Q' : α → Shared → Prop} {M : Model} {A : Around} {E : Value → Shared → Prop} {s : Shared} (h : wpAny M A t Q E s) (hQ : ∀ a s, Q a s → Q' a s) : wpAny M A t Q' E s := wpAny_mono h hQ fun _ _ x => x
end L2

namespace L2
open PySem PySem.Spec PyProof.Rows
section
variable {X : Cx}

/-- two expressions in a row -/
theorem bin {a b : Expr} {ta tb : TE} (ha : PE X a ta) (hb : PE X b tb) {pins : List (Addr × Obj)} {s : Shared} {σ : St} {H : Hp} {R : V → V → Hp → Prop} (I : Inv X pins σ H s) (h : ta σ H fun x H1 => tb σ H1 fun y H2 => R x y H2)
    {α : Type} {Q : α → Shared → Prop} {f : Value → Value → Sem α}
    (hf : ∀ v u s2 x y H2, Inv X pins σ H2 s2 → RelV x v → RelV y u → R x y H2 → wpAny (model X.prog X.w) X.A (f v u) Q X.xe s2) :
    wpAny (model X.prog X.w) X.A (eval a X.env) (fun v s₁ => wpAny (model X.prog X.w) X.A (eval b X.env) (fun u s₂ => wpAny (model X.prog X.w) X.A (f v u) Q X.xe s₂) X.xe s₁) X.xe s := by
  refine thn (ha pins s σ H _ I h) fun v s1 ⟨x, H1, I1, r1, q1⟩ => ?_
  refine thn (hb pins s1 σ H1 _ I1 q1) fun u s2 ⟨y, H2, I2, r2, q2⟩ => ?_
  exact hf v u s2 x y H2 I2 r1 r2 q2

/-! ### names and constants -/
def tVar (i : Nat) : TE := fun σ H Q => ∃ v, σ[i]? = some (some v) ∧ Q v H
def tC (v : V) : TE := fun _ H Q => Q v H
theorem pe_var {i : Nat} {x : Str} {pos : Pos} (hN : X.N[i]? = some x) (hv : Vis X.env.scope x) (hd : (x == ("__debug__" : Str)) = false := by decide) (hcd : (x == ("__classdict__" : Str)) = false := by decide) : PE X (.Name x pos) (tVar i) := by
  intro pins s σ H Q I h
  obtain ⟨v, e, h⟩ := h
  obtain ⟨m, hn, hl⟩ := I.loc
  obtain ⟨u, r, l⟩ := hl i x v hN e hv
  have fin : EP X pins σ Q u s := ⟨v, H, I, r, h⟩
  rcases l with ⟨hk, hm⟩ | ⟨hk, c, hc, hcell⟩
  · exact wpAny_Name (wpAny_loadName_local I.ok.kind hk hn hm fin) hd
  · rcases hk with hk | hk
    · exact wpAny_Name (wpAny_loadName_cell I.ok.kind hk hc hcell fin) hd
    · exact wpAny_Name (wpAny_loadName_free I.ok.kind hk hc hcell fin hcd) hd
theorem pe_int {i j pos} : PE X (.Constant (.int i) j pos) (tC (.int i)) := fun _ _ _ H _ I h => wpAny_Constant_int ⟨.int i, H, I.tok _, ⟨_, rfl⟩, h⟩
theorem pe_bl {b j pos} : PE X (.Constant (.bool b) j pos) (tC (.bl b)) := fun _ _ _ H _ I h => Constant_bool ⟨.bl b, H, I, rfl, h⟩
theorem pe_non {j pos} : PE X (.Constant .none j pos) (tC .non) := fun _ _ _ H _ I h => Constant_none ⟨.non, H, I, rfl, h⟩
theorem pe_str {x j pos} : PE X (.Constant (.str x) j pos) (tC (.str x)) := fun _ _ _ H _ I h => Calls.Constant_str ⟨.str x, H, I.tok _, ⟨_, rfl⟩, h⟩

/-- a global name of the def -/
def Gl (X : Cx) (x : Str) : Prop := X.env.kindOf x = some .globalImplicit
theorem ld_glob {E : Value → Shared → Prop} {pins : List (Addr × Obj)} {s : Shared} {σ : St} {H : Hp} {x : Str} {u : Value} {pos : Pos} {Q : Value → Shared → Prop} (I : Inv X pins σ H s) (hg : Gl X x) (hm : X.mg x = some u) (h : Q u s)
    (hd : (x == ("__debug__" : Str)) = false := by decide) : wpAny (model X.prog X.w) X.A (eval (.Name x pos) X.env) Q E s :=
  Calls.Name_function_global I.ok.kind hg (Calls.loadGlobal_global (by rw [I.ok.glob]; exact I.mod.glob.keeps I.bk) hm h) hd
theorem ld_blt {E : Value → Shared → Prop} {pins : List (Addr × Obj)} {s : Shared} {σ : St} {H : Hp} {x : Str} {u : Value} {pos : Pos} {Q : Value → Shared → Prop} (I : Inv X pins σ H s) (hg : Gl X x) (hm : X.mg x = none) (hv : bootBuiltins x = some u) (h : Q u s)
    (hn : x ≠ "__name__" := by decide) (hd : (x == ("__debug__" : Str)) = false := by decide) : wpAny (model X.prog X.w) X.A (eval (.Name x pos) X.env) Q E s := by
  obtain ⟨mb, h1, h2⟩ := I.mod.blt
  exact Calls.Name_function_global I.ok.kind hg (Calls.loadGlobal_builtin (by rw [I.ok.glob]; exact I.mod.glob.keeps I.bk) hm (by rw [I.ok.blt]; exact h1.keeps I.bk) ((h2 x hn).trans hv) h) hd
/-- a module's constant, a class, a function, as a value -/
theorem pe_glob {x : Str} {v : V} {u : Value} {pos : Pos} (hg : Gl X x) (hm : X.mg x = some u) (r : RelV v u) (hd : (x == ("__debug__" : Str)) = false := by decide) : PE X (.Name x pos) (tC v) :=
  fun _ _ _ H _ I h => ld_glob I hg hm ⟨v, H, I, r, h⟩ hd
theorem pe_bltn {x : Str} {v : V} {u : Value} {pos : Pos} (hg : Gl X x) (hm : X.mg x = none) (hv : bootBuiltins x = some u) (r : RelV v u) (hn : x ≠ "__name__" := by decide) (hd : (x == ("__debug__" : Str)) = false := by decide) : PE X (.Name x pos) (tC v) :=
  fun _ _ _ H _ I h => ld_blt I hg hm hv ⟨v, H, I, r, h⟩ hn hd

/-! ### arithmetic -/
/-- two ints -/
def t2I (ta tb : TE) (k : Int → Int → Hp → Prop) : St → Hp → Prop := fun σ H => ta σ H fun x H1 => tb σ H1 fun y H2 => ∃ i j, x = .int i ∧ y = .int j ∧ k i j H2
def tAdd (ta tb : TE) : TE := fun σ H Q => t2I ta tb (fun i j H2 => Q (.int (i + j)) H2) σ H
def tSub (ta tb : TE) : TE := fun σ H Q => t2I ta tb (fun i j H2 => Q (.int (i - j)) H2) σ H
/-- the left factor below 2^64 -/
def tMul (ta tb : TE) : TE := fun σ H Q => t2I ta tb (fun i j H2 => (-(2 ^ 64) < i ∧ i < 2 ^ 64) ∧ Q (.int (i * j)) H2) σ H
variable {a b : Expr} {ta tb : TE} {pos : Pos}
theorem pe_add (ha : PE X a ta) (hb : PE X b tb) : PE X (.BinOp a .Add b pos) (tAdd ta tb) := by
  intro pins s σ H Q I h
  refine wpAny_BinOp (bin ha hb I h fun v u s2 x y H2 I2 rx ry q => ?_)
  obtain ⟨i, j, rfl, rfl, q⟩ := q
  obtain ⟨t, rfl⟩ := rx
  obtain ⟨t', rfl⟩ := ry
  exact add_int ⟨.int _, H2, I2.tok _, ⟨_, rfl⟩, q⟩
theorem pe_sub (ha : PE X a ta) (hb : PE X b tb) : PE X (.BinOp a .Sub b pos) (tSub ta tb) := by
  intro pins s σ H Q I h
  refine wpAny_BinOp (bin ha hb I h fun v u s2 x y H2 I2 rx ry q => ?_)
  obtain ⟨i, j, rfl, rfl, q⟩ := q
  obtain ⟨t, rfl⟩ := rx
  obtain ⟨t', rfl⟩ := ry
  exact sub_int ⟨.int _, H2, I2.tok _, ⟨_, rfl⟩, q⟩
theorem pe_mul (ha : PE X a ta) (hb : PE X b tb) : PE X (.BinOp a .Mult b pos) (tMul ta tb) := by
  intro pins s σ H Q I h
  refine wpAny_BinOp (bin ha hb I h fun v u s2 x y H2 I2 rx ry q => ?_)
  obtain ⟨i, j, rfl, rfl, ⟨q1, q2⟩, q⟩ := q
  obtain ⟨t, rfl⟩ := rx
  obtain ⟨t', rfl⟩ := ry
  exact mul_int ⟨.int _, H2, I2.tok _, ⟨_, rfl⟩, q⟩ (.of_left (intBits_le_64 q1 q2))

/-! ### comparisons -/
def PC (X : Cx) (op : CmpOp) (a b : Expr) (t : TE) : Prop :=
  ∀ (pins : List (Addr × Obj)) (s : Shared) (σ : St) (H : Hp) (Q : VK), Inv X pins σ H s → t σ H Q →
    wpAny (model X.prog X.w) X.A (eval a X.env) (fun v s₁ => wpAny (model X.prog X.w) X.A (eval b X.env) (fun u s₂ => wpAny (model X.prog X.w) X.A (compareOp op v u) (EP X pins σ Q) X.xe s₂) X.xe s₁) X.xe s
theorem nobehind (b : Expr) {op : CmpOp} (h : op ≠ .In) (h2 : op ≠ .NotIn) : behindInMarks op b = false := by
  have e1 : (op == CmpOp.In) = false := by cases op <;> first | rfl | exact absurd rfl h
  have e2 : (op == CmpOp.NotIn) = false := by cases op <;> first | rfl | exact absurd rfl h2
  cases b <;> simp [behindInMarks, e1, e2]
def tCmp (p : Int → Int → Bool) (ta tb : TE) : TE := fun σ H Q => t2I ta tb (fun i j H2 => Q (.bl (p i j)) H2) σ H
abbrev tLt : TE → TE → TE := tCmp fun i j => decide (i < j)
abbrev tLe : TE → TE → TE := tCmp fun i j => decide (i ≤ j)
abbrev tGt : TE → TE → TE := tCmp fun i j => decide (j < i)
abbrev tGe : TE → TE → TE := tCmp fun i j => decide (j ≤ i)
abbrev tEqI : TE → TE → TE := tCmp fun i j => decide (i = j)
abbrev tNeI : TE → TE → TE := tCmp fun i j => !decide (i = j)
/-- a comparison of two ints, by its rule -/
theorem pc_int {op : CmpOp} {p : Int → Int → Bool} (ha : PE X a ta) (hb : PE X b tb)
    (rule : ∀ (i j : Int) (t u : Tok) (Q : Value → Shared → Prop) (s : Shared), Q (.bool (p i j)) s → wpAny (model X.prog X.w) X.A (compareOp op (.int i t) (.int j u)) Q X.xe s) : PC X op a b (tCmp p ta tb) := by
  intro pins s σ H Q I h
  refine bin ha hb I h fun v u s2 x y H2 I2 rx ry q => ?_
  obtain ⟨i, j, rfl, rfl, q⟩ := q
  obtain ⟨t, rfl⟩ := rx
  obtain ⟨t', rfl⟩ := ry
  exact rule i j t t' _ s2 ⟨.bl _, H2, I2, rfl, q⟩
theorem pc_lt (ha : PE X a ta) (hb : PE X b tb) : PC X .Lt a b (tLt ta tb) := pc_int ha hb fun _ _ _ _ _ _ h => lt_int h
theorem pc_le (ha : PE X a ta) (hb : PE X b tb) : PC X .LtE a b (tLe ta tb) := pc_int ha hb fun _ _ _ _ _ _ h => le_int h
theorem pc_gt (ha : PE X a ta) (hb : PE X b tb) : PC X .Gt a b (tGt ta tb) := pc_int ha hb fun _ _ _ _ _ _ h => gt_int h
theorem pc_ge (ha : PE X a ta) (hb : PE X b tb) : PC X .GtE a b (tGe ta tb) := pc_int ha hb fun _ _ _ _ _ _ h => ge_int h
theorem pc_eqI (ha : PE X a ta) (hb : PE X b tb) : PC X .Eq a b (tEqI ta tb) := pc_int ha hb fun _ _ _ _ _ _ h => eq_int (by rw [Bool.beq_eq_decide_eq]; exact h)
theorem pc_neI (ha : PE X a ta) (hb : PE X b tb) : PC X .NotEq a b (tNeI ta tb) := pc_int ha hb fun _ _ _ _ _ _ h => ne_int (by rw [bne, Bool.beq_eq_decide_eq]; exact h)
/-- is None -/
def tIsN (ta : TE) : TE := fun σ H Q => ta σ H fun x H1 => Q (.bl (decide (x = .non))) H1
def tNotN (ta : TE) : TE := fun σ H Q => ta σ H fun x H1 => Q (.bl (!decide (x = .non))) H1
theorem RelV.none_iff {x : V} {v : Value} (r : RelV x v) : (v == Value.none) = decide (x = .non) := by
  cases x with
  | non => cases r; rfl
  | bl _ => cases r; rfl
  | int _ => obtain ⟨t, rfl⟩ := r; rfl
  | str _ => obtain ⟨t, rfl⟩ := r; rfl
  | byt _ => obtain ⟨t, rfl⟩ := r; rfl
  | flt _ => obtain ⟨t, rfl⟩ := r; rfl
  | ref _ => cases r; rfl
  | ty _ => cases r; rfl
theorem pc_isN {j pos'} (ha : PE X a ta) : PC X .Is a (.Constant .none j pos') (tIsN ta) := by
  intro pins s σ H Q I h
  refine thn (ha pins s σ H _ I h) fun v s1 ⟨x, H1, I1, r1, q1⟩ => ?_
  exact Constant_none (is_none_gen ⟨.bl _, H1, I1, by rw [r1.none_iff]; rfl, q1⟩)
theorem pc_notN {j pos'} (ha : PE X a ta) : PC X .IsNot a (.Constant .none j pos') (tNotN ta) := by
  intro pins s σ H Q I h
  refine thn (ha pins s σ H _ I h) fun v s1 ⟨x, H1, I1, r1, q1⟩ => ?_
  exact Constant_none (isnot_none_gen ⟨.bl _, H1, I1, by rw [r1.none_iff]; rfl, q1⟩)
/-- a comparison as a value, as a test -/
def tB (t : TE) : TT := fun σ H Q => t σ H fun x H1 => ∃ c, x = .bl c ∧ Q c H1
theorem pe_cmp {op : CmpOp} {t : TE} (h : PC X op a b t) (h1 : behindInMarks op b = false := by first | exact nobehind _ (by decide) (by decide) | rfl) : PE X (.Compare a [op] [b] pos) t := fun pins s σ H Q I hw => wpAny_Compare1 (h pins s σ H Q I hw) h1
theorem pt_cmp {op : CmpOp} {t : TE} (h : PC X op a b t) (h1 : behindInMarks op b = false := by first | exact nobehind _ (by decide) (by decide) | rfl) : PT X (.Compare a [op] [b] pos) (tB t) := by
  intro pins s σ H Q I hw
  refine wpAny_isTrue_Compare1 (thn (h pins s σ H _ I hw) fun v s1 h1 => thn h1 fun u s2 h2 => thn h2 fun c s3 ⟨x, H1, I1, r1, q1⟩ => ?_) h1
  obtain ⟨d, rfl, q⟩ := q1
  cases r1
  exact wpAny_truthy_bool ⟨H1, I1, q⟩
/-- an expression whose value is a bool, as a test -/
theorem pt_val {e : Expr} {t : TE} (h : PE X e t) (he : ∀ whole, isTrue e X.env whole = (do let v ← whole; standAt e.pos; holding [v] (truthy v)) := by intro _; rfl) : PT X e (tB t) := by
  intro pins s σ H Q I hw
  refine isTrue_plain (thn (h pins s σ H _ I hw) fun v s1 ⟨x, H1, I1, r1, q1⟩ => ?_) (he _)
  obtain ⟨d, rfl, q⟩ := q1
  cases r1
  exact wpAny_truthy_bool ⟨H1, I1, q⟩

/-! ### and, or, not -/
variable {tA tB' : TT} {rest : List Expr}
def tAnd (t u : TT) : TT := fun σ H Q => t σ H fun c H1 => if c = true then u σ H1 Q else Q false H1
def tOr (t u : TT) : TT := fun σ H Q => t σ H fun c H1 => if c = true then Q true H1 else u σ H1 Q
def tNot (t : TT) : TT := fun σ H Q => t σ H fun c H1 => Q (!c) H1
theorem pw_and1 (ha : PT X a tA) : PW X (.BoolOp .And [a] pos) tA := by
  intro wh pins s σ H Q I h
  refine isTrue_and (thn (ha pins s σ H Q I h) fun c s1 e => ?_)
  cases c with
  | true => exact isTrue_and_nil e
  | false => exact e
theorem pw_or1 (ha : PT X a tA) : PW X (.BoolOp .Or [a] pos) tA := by
  intro wh pins s σ H Q I h
  refine isTrue_or (thn (ha pins s σ H Q I h) fun c s1 e => ?_)
  cases c with
  | false => exact isTrue_or_nil e
  | true => exact e
theorem pw_and (ha : PT X a tA) (hb : PW X (.BoolOp .And (b :: rest) pos) tB') : PW X (.BoolOp .And (a :: b :: rest) pos) (tAnd tA tB') := by
  intro wh pins s σ H Q I h
  refine isTrue_and (thn (ha pins s σ H _ I h) fun c s1 ⟨H1, I1, q1⟩ => ?_)
  cases c with
  | true => exact hb wh pins s1 σ H1 Q I1 q1
  | false => exact ⟨H1, I1, q1⟩
theorem pw_or (ha : PT X a tA) (hb : PW X (.BoolOp .Or (b :: rest) pos) tB') : PW X (.BoolOp .Or (a :: b :: rest) pos) (tOr tA tB') := by
  intro wh pins s σ H Q I h
  refine isTrue_or (thn (ha pins s σ H _ I h) fun c s1 ⟨H1, I1, q1⟩ => ?_)
  cases c with
  | true => exact ⟨H1, I1, q1⟩
  | false => exact hb wh pins s1 σ H1 Q I1 q1
theorem pt_not (ha : PT X a tA) : PT X (.UnaryOp .Not a pos) (tNot tA) := by
  intro pins s σ H Q I h
  exact isTrue_not (ha pins s σ H (fun c H1 => Q (!c) H1) I h)
/-- .. as values (bools) -/
def tAndV (ta tb : TE) : TE := fun σ H Q => ta σ H fun x H1 => ∃ c, x = .bl c ∧ if c = true then tb σ H1 Q else Q (.bl false) H1
def tOrV (ta tb : TE) : TE := fun σ H Q => ta σ H fun x H1 => ∃ c, x = .bl c ∧ if c = true then Q (.bl true) H1 else tb σ H1 Q
def tNotV (ta : TE) : TE := fun σ H Q => ta σ H fun x H1 => ∃ c, x = .bl c ∧ Q (.bl (!c)) H1
theorem pe_one {op} {t : TE} (h : PE X a t) : PE X (.BoolOp op [a] pos) t := fun pins s σ H Q I hw => BoolOp_one (h pins s σ H Q I hw)
theorem pe_and (ha : PE X a ta) (hb : PE X (.BoolOp .And (b :: rest) pos) tb) : PE X (.BoolOp .And (a :: b :: rest) pos) (tAndV ta tb) := by
  intro pins s σ H Q I h
  refine BoolOp_and (thn (ha pins s σ H _ I h) fun v s1 ⟨x, H1, I1, r1, q1⟩ => ?_)
  obtain ⟨c, rfl, q1⟩ := q1
  cases r1
  refine wpAny_truthy_bool ?_
  cases c with
  | true => exact hb pins s1 σ H1 Q I1 q1
  | false => exact ⟨.bl false, H1, I1, rfl, q1⟩
theorem pe_or (ha : PE X a ta) (hb : PE X (.BoolOp .Or (b :: rest) pos) tb) : PE X (.BoolOp .Or (a :: b :: rest) pos) (tOrV ta tb) := by
  intro pins s σ H Q I h
  refine BoolOp_or (thn (ha pins s σ H _ I h) fun v s1 ⟨x, H1, I1, r1, q1⟩ => ?_)
  obtain ⟨c, rfl, q1⟩ := q1
  cases r1
  refine wpAny_truthy_bool ?_
  cases c with
  | false => exact hb pins s1 σ H1 Q I1 q1
  | true => exact ⟨.bl true, H1, I1, rfl, q1⟩
theorem pe_not (ha : PE X a ta) : PE X (.UnaryOp .Not a pos) (tNotV ta) := by
  intro pins s σ H Q I h
  refine UnaryOp_ (thn (ha pins s σ H _ I h) fun v s1 ⟨x, H1, I1, r1, q1⟩ => ?_)
  obtain ⟨c, rfl, q1⟩ := q1
  cases r1
  exact not_of (wpAny_truthy_bool ⟨.bl (!c), H1, I1, rfl, q1⟩)
/-- a if t else b -/
def tIf (t : TT) (ta tb : TE) : TE := fun σ H Q => t σ H fun c H1 => if c = true then ta σ H1 Q else tb σ H1 Q
theorem pe_ifExp {c : Expr} (hc : PT X c tA) (ha : PE X a ta) (hb : PE X b tb) : PE X (.IfExp c a b pos) (tIf tA ta tb) := by
  intro pins s σ H Q I h
  refine wpAny_IfExp (thn (hc pins s σ H _ I h) fun d s1 ⟨H1, I1, q1⟩ => ?_)
  cases d with
  | true => exact ha pins s1 σ H1 Q I1 q1
  | false => exact hb pins s1 σ H1 Q I1 q1
end
end L2

namespace L2
open PySem PySem.Spec PyProof.Rows

/-! ### a list, a tuple that is read: tracked, frozen, or an object of the module -/
def SqL (K : PySem.W.Frag) (H : Hp) (a : Addr) (xs : List V) : Prop :=
  Rd H a (.lst xs) ∨
    ∃ (o : Obj) (its : Array Value) (n : Nat), K.lookup a = some o ∧ o.cls = .type "list" ∧ o.dict = none ∧ o.data = .seq its n ∧ its.size ≤ sizeLine ∧ Vals xs its.toList
def SqT (K : PySem.W.Frag) (H : Hp) (a : Addr) (xs : List V) : Prop :=
  Rd H a (.tup xs) ∨
    ∃ (o : Obj) (its : Array Value) (n : Nat), K.lookup a = some o ∧ o.cls = .type "tuple" ∧ o.data = .seq its n ∧ its.size ≤ sizeLine ∧ Vals xs its.toList
def absV : Value → Option V
  | .none => some .non
  | .bool b => some (.bl b)
  | .int i _ => some (.int i)
  | .str x _ => some (.str x)
  | .bytes b _ => some (.byt b)
  | .float b _ => some (.flt b)
  | .ref a => some (.ref a)
  | .type n => some (.ty n)
  | _ => none
theorem RelV.abs {x : V} {u : Value} (r : RelV x u) : absV u = some x := by
  cases x with
  | non => cases r; rfl
  | bl _ => cases r; rfl
  | int _ => obtain ⟨t, rfl⟩ := r; rfl
  | str _ => obtain ⟨t, rfl⟩ := r; rfl
  | byt _ => obtain ⟨t, rfl⟩ := r; rfl
  | flt _ => obtain ⟨t, rfl⟩ := r; rfl
  | ref _ => cases r; rfl
  | ty _ => cases r; rfl
theorem RelV.inj {x y : V} {u : Value} (r : RelV x u) (q : RelV y u) : x = y := Option.some.inj (r.abs.symm.trans q.abs)
theorem Vals.inj : ∀ {xs ys : List V} {us : List Value}, Vals xs us → Vals ys us → xs = ys
  | _, _, _, .nil, .nil => rfl
  | _, _, _, .cons r t, .cons r' t' => by rw [r.inj r', Vals.inj t t']
section
variable {X : Cx} {pins : List (Addr × Obj)} {σ : St} {H : Hp} {s : Shared} {a : Addr} {xs ys : List V}
theorem SqL.of {K : PySem.W.Frag} (h : H a = some (.lst xs)) : SqL K H a xs := .inl (.inl h)
theorem SqT.of {K : PySem.W.Frag} (h : H a = some (.tup xs)) : SqT K H a xs := .inl (.inl h)
theorem Inv.list (I : Inv X pins σ H s) (h : SqL X.K H a xs) : ∃ its : List Value, Vals xs its ∧ PlainL s.heap a its.toArray ∧ xs.length ≤ sizeLine := by
  rcases h with h | ⟨o, its, n, hk, hc, hd, hs, hz, r⟩
  · obtain ⟨z, its, n, r, e⟩ := h.ok I.hok
    exact ⟨its, r, ⟨_, n, e, rfl, rfl, rfl⟩, z⟩
  · refine ⟨its.toList, r, ⟨o, n, I.kIn a o hk, hc, hd, by simpa using hs⟩, ?_⟩
    have e := r.length
    simp only [Array.length_toList] at e
    omega
theorem Inv.tuple (I : Inv X pins σ H s) (h : SqT X.K H a xs) : ∃ its : List Value, Vals xs its ∧ IsTup s.heap a its.toArray ∧ xs.length ≤ sizeLine := by
  rcases h with h | ⟨o, its, n, hk, hc, hs, hz, r⟩
  · obtain ⟨z, its, r, p⟩ := h.ok I.hok
    exact ⟨its, r, p, z⟩
  · refine ⟨its.toList, r, ⟨o, I.kIn a o hk, hc, n, by simpa using hs⟩, ?_⟩
    have e := r.length
    simp only [Array.length_toList] at e
    omega
theorem Inv.list_inj (I : Inv X pins σ H s) (h : SqL X.K H a xs) (h' : SqL X.K H a ys) : xs = ys := by
  obtain ⟨its, r, ⟨o, n, e, _, _, d⟩, _⟩ := I.list h
  obtain ⟨its', r', ⟨o', n', e', _, _, d'⟩, _⟩ := I.list h'
  rw [e] at e'; cases e'
  rw [d] at d'
  injection d' with d1 _
  have : its = its' := by simpa using congrArg Array.toList d1
  subst this
  exact r.inj r'
theorem Inv.tuple_inj (I : Inv X pins σ H s) (h : SqT X.K H a xs) (h' : SqT X.K H a ys) : xs = ys := by
  obtain ⟨its, r, ⟨o, e, _, n, d⟩, _⟩ := I.tuple h
  obtain ⟨its', r', ⟨o', e', _, n', d'⟩, _⟩ := I.tuple h'
  rw [e] at e'; cases e'
  rw [d] at d'
  injection d' with d1 _
  have : its = its' := by simpa using congrArg Array.toList d1
  subst this
  exact r.inj r'
end

/-! ### another wish about exceptions -/
abbrev Cx.wish (X : Cx) (E : Value → Shared → Prop) : Cx := { X with xe := E }
/-- no exception leaves -/
abbrev Cx.nox (X : Cx) : Cx := X.wish fun _ _ => False
theorem Cx.Ok.wish {X : Cx} (ok : X.Ok) (E : Value → Shared → Prop) : (X.wish E).Ok :=
  ⟨ok.mod, ok.kind, ok.glob, ok.blt, ok.above, ok.inj, ok.has, ok.cab, ok.hd, ok.frames, ok.stk, ok.exf, ok.bs, ok.bsz, ok.noex, ok.exfs, ok.funs, ok.frf⟩
theorem Cx.Ok.unwish {X : Cx} {E : Value → Shared → Prop} (ok : (X.wish E).Ok) : X.Ok :=
  ⟨ok.mod, ok.kind, ok.glob, ok.blt, ok.above, ok.inj, ok.has, ok.cab, ok.hd, ok.frames, ok.stk, ok.exf, ok.bs, ok.bsz, ok.noex, ok.exfs, ok.funs, ok.frf⟩
section
variable {X : Cx} {pins : List (Addr × Obj)} {σ : St} {H : Hp} {s : Shared} {E : Value → Shared → Prop}
theorem Inv.wish (I : Inv X pins σ H s) (E : Value → Shared → Prop) : Inv (X.wish E) pins σ H s := ⟨I.ok.wish E, I.os, I.bare, I.base, I.loc, I.cell, I.free, I.freeC, I.pin, I.hok, I.len⟩
theorem Inv.unwish (I : Inv (X.wish E) pins σ H s) : Inv X pins σ H s := ⟨I.ok.unwish, I.os, I.bare, I.base, I.loc, I.cell, I.free, I.freeC, I.pin, I.hok, I.len⟩
theorem SP.unwish {D : Ends} {f : Flow} {s' : Shared} (h : SP (X.wish E) pins D f s') : SP X pins D f s' := by
  cases f with
  | next => obtain ⟨σ', H', I, q⟩ := h; exact ⟨σ', H', I.unwish, q⟩
  | brk => obtain ⟨σ', H', I, q⟩ := h; exact ⟨σ', H', I.unwish, q⟩
  | cont => obtain ⟨σ', H', I, q⟩ := h; exact ⟨σ', H', I.unwish, q⟩
  | ret u => obtain ⟨v, σ', H', I, r, q⟩ := h; exact ⟨v, σ', H', I.unwish, r, q⟩
theorem PE.nox {e : Expr} {t : TE} (h : PE X.nox e t) : PE X e t := fun pins s σ H Q I hw =>
  wpAny_mono (h pins s σ H Q (I.wish _) hw) (fun _ _ ⟨v, H', I', r, q⟩ => ⟨v, H', I'.unwish, r, q⟩) fun _ _ z => False.elim z
theorem PT.nox {e : Expr} {t : TT} (h : PT X.nox e t) : PT X e t := fun pins s σ H Q I hw =>
  wpAny_mono (h pins s σ H Q (I.wish _) hw) (fun _ _ ⟨H', I', q⟩ => ⟨H', I'.unwish, q⟩) fun _ _ z => False.elim z
theorem PSs.nox {st : List Stmt} {t : TS} (h : PSs X.nox st t) : PSs X st t := fun pins s σ H D I hw =>
  wpAny_mono (h pins s σ H D (I.wish _) hw) (fun _ _ q => q.unwish) fun _ _ z => False.elim z
end

/-! ### blocks and small statements -/
section
variable {X : Cx} {st : Stmt} {rest : List Stmt} {t u : TS} {e : Expr} {te : TE} {pos : Pos}
def tNext : TS := fun D σ H => D.nx σ H
def tSeq (t u : TS) : TS := fun D σ H => t { D with nx := u D } σ H
theorem pss_nil : PSs X [] tNext := fun _ _ σ H _ I h => wpAny_execs_nil ⟨σ, H, I, h⟩
theorem pss_cons (h1 : PS X st t) (h2 : PSs X rest u) : PSs X (st :: rest) (tSeq t u) := by
  intro pins s σ H D I h
  refine wpAny_execs_cons (thn (h1 pins s σ H { D with nx := u D } I h) fun f s1 q => ?_)
  cases f with
  | next =>
    obtain ⟨σ', H', I', q⟩ := q
    exact h2 pins s1 σ' H' D I' q
  | ret v => exact q
  | brk => exact q
  | cont => exact q
theorem pss_one (h1 : PS X st t) : PSs X [st] t := by
  intro pins s σ H D I h
  refine wpAny_execs_cons (thn (h1 pins s σ H D I h) fun f s1 q => ?_)
  cases f with
  | next => exact wpAny_execs_nil q
  | ret v => exact q
  | brk => exact q
  | cont => exact q
def tBreak : TS := fun D σ H => D.bk σ H
def tCont : TS := fun D σ H => D.ct σ H
theorem ps_pass : PS X (.Pass pos) tNext := fun _ _ σ H _ I h => wpAny_Pass ⟨σ, H, I, h⟩
theorem ps_break : PS X (.Break pos) tBreak := fun _ _ σ H _ I h => wpAny_Break ⟨σ, H, I, h⟩
theorem ps_continue : PS X (.Continue pos) tCont := fun _ _ σ H _ I h => wpAny_Continue ⟨σ, H, I, h⟩
/-- in a def's body nothing is shown -/
theorem Inv.quiet {pins : List (Addr × Obj)} {σ : St} {H : Hp} {s : Shared} (I : Inv X pins σ H s) : interactive X.env = false := by simp [interactive, I.ok.kind]
/-- a docstring -/
theorem ps_doc {x j pos pos'} : PS X (.Expr (.Constant (.str x) j pos) pos') tNext := fun _ s σ H _ I h => wpAny_Expr (Calls.Constant_str (show SP X _ _ .next { s with toks := s.toks + 1 } from ⟨σ, H, I.tok _, h⟩)) I.quiet
/-- an expression whose value is dropped -/
def tDrop (te : TE) : TS := fun D σ H => te σ H fun _ H1 => D.nx σ H1
theorem ps_expr (he : PE X e te) (hs : swapsWith e none pos.line X.env = pure false := by rfl) : PS X (.Expr e pos) (tDrop te) := by
  intro pins s σ H D I h
  exact wpAny_Expr_any (thn (he pins s σ H _ I h) fun v s1 ⟨x, H1, I1, r1, q1⟩ => ⟨σ, H1, I1, q1⟩) I.quiet hs
def tRet (te : TE) : TS := fun D σ H => te σ H D.rt
theorem ps_ret (he : PE X e te) : PS X (.Return (some e) pos) (tRet te) := by
  intro pins s σ H D I h
  exact wpAny_Return_some (thn (he pins s σ H _ I h) fun v s1 ⟨x, H1, I1, r1, q1⟩ => ⟨x, σ, H1, I1, r1, q1⟩)
def tRetN : TS := fun D _ H => D.rt .non H
theorem ps_retN : PS X (.Return none pos) tRetN := fun _ _ σ H _ I h => wpAny_Return_none ⟨.non, σ, H, I, rfl, h⟩
def tIfS (c : TT) (t u : TS) : TS := fun D σ H => c σ H fun b H1 => if b = true then t D σ H1 else u D σ H1
theorem ps_if {c : Expr} {a b : List Stmt} {tc : TT} (hc : PT X c tc) (ha : PSs X a t) (hb : PSs X b u) : PS X (.If c a b pos) (tIfS tc t u) := by
  intro pins s σ H D I h
  refine wpAny_If (thn (hc pins s σ H _ I h) fun d s1 ⟨H1, I1, q1⟩ => ?_)
  cases d with
  | true => exact ha pins s1 σ H1 D I1 q1
  | false => exact hb pins s1 σ H1 D I1 q1
/-- code that the proof never comes to -/
def tNever : TS := fun _ _ _ => False
theorem ps_never : PS X st tNever := fun _ _ _ _ _ _ h => h.elim
theorem pss_never {sts : List Stmt} : PSs X sts tNever := fun _ _ _ _ _ _ h => h.elim
end

/-! ### targets -/
abbrev TG := V → St → Hp → (St → Hp → Prop) → Prop
abbrev TGs := List V → St → Hp → (St → Hp → Prop) → Prop
def PG (X : Cx) (target : Expr) (t : TG) : Prop :=
  ∀ (pins : List (Addr × Obj)) (s : Shared) (σ : St) (H : Hp) (v : V) (u : Value) (Q : St → Hp → Prop), Inv X pins σ H s → RelV v u → t v σ H Q →
    wpAny (model X.prog X.w) X.A (assign target X.env u) (fun _ s' => ∃ σ' H', Inv X pins σ' H' s' ∧ Q σ' H') X.xe s
/-- several targets, one after another -/
def PGs (X : Cx) (ts : List Expr) (t : TGs) : Prop :=
  ∀ (pins : List (Addr × Obj)) (s : Shared) (σ : St) (H : Hp) (vs : List V) (us : List Value) (Q : St → Hp → Prop), Inv X pins σ H s → Vals vs us → t vs σ H Q →
    wpAny (model X.prog X.w) X.A (assignInOrder ((assignEach ts X.env).map (·.2)) us) (fun _ s' => ∃ σ' H', Inv X pins σ' H' s' ∧ Q σ' H') X.xe s
/-- o[i] = v, by values -/
abbrev TSet := V → V → V → Hp → (Hp → Prop) → Prop
def PSet (X : Cx) (t : TSet) : Prop :=
  ∀ (pins : List (Addr × Obj)) (s : Shared) (σ : St) (H : Hp) (o i v : V) (ov iv u : Value) (Q : Hp → Prop), Inv X pins σ H s → RelV o ov → RelV i iv → RelV v u → t o i v H Q →
    wpAny (model X.prog X.w) X.A (setItem ov iv u) (fun _ s' => ∃ H', Inv X pins σ H' s' ∧ Q H') X.xe s
/-- a op= b, by values -/
abbrev TIp := V → V → Hp → VK → Prop
def PIp (X : Cx) (op : Operator) (t : TIp) : Prop :=
  ∀ (pins : List (Addr × Obj)) (s : Shared) (σ : St) (H : Hp) (x y : V) (v u : Value) (Q : VK), Inv X pins σ H s → RelV x v → RelV y u → t x y H Q →
    wpAny (model X.prog X.w) X.A (inplaceOp op v u) (EP X pins σ Q) X.xe s
section
variable {X : Cx} {pos : Pos}
def gName (i : Nat) : TG := fun v σ H Q => Q (σ.set i (some v)) H
theorem pg_name {i : Nat} {x : Str} (hN : X.N.Nodup) (hi : X.N[i]? = some x) (hx : Loc X.env.scope x) (hf : X.fn x = true ∨ X.env.scope.names.lookup x = some .local := by first | exact .inl rfl | exact .inr rfl | assumption) : PG X (.Name x pos) (gName i) := by
  intro pins s σ H v u Q I r h
  exact wpAny_assign_Name (store_ok I hN hi hx r (fun s' I' => ⟨_, H, I', h⟩) hf)
def gNil : TGs := fun vs σ H Q => vs = [] ∧ Q σ H
def gCons (t : TG) (u : TGs) : TGs := fun vs σ H Q => ∃ v r, vs = v :: r ∧ t v σ H fun σ' H' => u r σ' H' Q
theorem pgs_nil : PGs X [] gNil := by
  intro pins s σ H vs us Q I r h
  obtain ⟨e, h⟩ := h
  subst e
  cases r
  exact assignInOrder_nil ⟨σ, H, I, h⟩
theorem pgs_cons {e : Expr} {es : List Expr} {t : TG} {u : TGs} (h1 : PG X e t) (h2 : PGs X es u)
    (hs : (assignEach (e :: es) X.env).map (·.2) = assign e X.env :: (assignEach es X.env).map (·.2) := by rfl) : PGs X (e :: es) (gCons t u) := by
  intro pins s σ H vs us Q I r h
  obtain ⟨v, vr, e1, h⟩ := h
  subst e1
  cases r with
  | cons r rr =>
    rw [hs]
    refine assignInOrder_cons (thn (h1 pins s σ H _ _ _ I r h) fun _ s1 ⟨σ1, H1, I1, q1⟩ => ?_)
    exact h2 pins s1 σ1 H1 _ _ Q I1 rr q1
/-- (a, b, ..) = a tuple of that length -/
def gTup (K : PySem.W.Frag) (n : Nat) (t : TGs) : TG := fun v σ H Q => ∃ a xs, v = .ref a ∧ SqT K H a xs ∧ xs.length = n ∧ t xs σ H Q
theorem pg_tup {es : List Expr} {k : Nat} {t : TGs} {n : Nat} (hc : X.calm = true) (h : PGs X es t)
    (hn : (assignEach es X.env).length = n := by rfl) (hst : (assignEach es X.env).findIdx? (·.1) = none := by rfl) : PG X (.Tuple es k pos) (gTup X.K n t) := by
  intro pins s σ H v u Q I r hw
  obtain ⟨a, xs, e1, hq, hl, hw⟩ := hw
  subst e1
  cases r
  obtain ⟨its, rv, ht, hz⟩ := I.tuple hq
  refine assign_Tuple_tuple (I.ok.hd hc) ht (by simp [hn, ← hl, rv.length]) hst fun h' hx => ?_
  have I1 : Inv X pins σ H { s with heap := h' } := I.kept (t' := s.toks) fun b o e => hx b o (Nat.ne_of_lt (Heap.lt_size e)) e
  exact h pins _ σ H xs _ Q I1 (by simpa using rv) hw
/-- o[i] = .. -/
def gSub (to ti : TE) (t : TSet) : TG := fun v σ H Q => to σ H fun o H1 => ti σ H1 fun i H2 => t o i v H2 fun H3 => Q σ H3
theorem pg_sub {o i : Expr} {to ti : TE} {t : TSet} (ho : PE X o to) (hi : PE X i ti) (hs : PSet X t)
    (ha : ∀ v, assign (.Subscript o i pos) X.env v = (do
      let ov ← holding [v] (eval o X.env)
      let iv ← holding [v, ov] (eval i X.env)
      standAt pos
      holding [v, ov, iv] (setItem ov iv v)
      release [v, ov, iv] []) := by intro _; rfl) : PG X (.Subscript o i pos) (gSub to ti t) := by
  intro pins s σ H v u Q I r h
  rw [ha]
  refine wpAny_bind (wpAny_holding (thn (ho pins s σ H _ I h) fun ov s1 ⟨x, H1, I1, r1, q1⟩ => ?_))
  refine wpAny_bind (wpAny_holding (thn (hi pins s1 σ H1 _ I1 q1) fun iv s2 ⟨y, H2, I2, r2, q2⟩ => ?_))
  refine wpAny_bind (wpAny_standAt (wpAny_bind (wpAny_holding (thn (hs pins s2 σ H2 x y v ov iv u _ I2 r1 r2 r q2) fun _ s3 ⟨H3, I3, q3⟩ => ?_))))
  exact wpAny_release ⟨σ, H3, I3, q3⟩
/-- target = value -/
def tAsg (te : TE) (g : TG) : TS := fun D σ H => te σ H fun x H1 => g x σ H1 D.nx
theorem ps_asg {tg e : Expr} {te : TE} {g : TG} (he : PE X e te) (hg : PG X tg g) (hs : swapsWithSole [tg] e pos.line X.env = pure false := by rfl) (hw : swappedStores [tg] e X.env = pure none := by rfl)
    (h1 : (assignEach [tg] X.env).map (·.2) = [assign tg X.env] := by rfl) : PS X (.Assign [tg] e pos) (tAsg te g) := by
  intro pins s σ H D I h
  refine wpAny_Assign_stores (thn (he pins s σ H _ I h) fun v s1 ⟨x, H1, I1, r1, q1⟩ => ?_) hs hw
  rw [h1]
  exact thn (hg pins s1 σ H1 x v _ I1 r1 q1) fun _ s2 q => q
/-- name = value -/
theorem ps_set {i : Nat} {x : Str} {e : Expr} {te : TE} {pos' : Pos} (hN : X.N.Nodup) (hi : X.N[i]? = some x) (hx : Loc X.env.scope x) (he : PE X e te) (hs : swapsWith e (some (.Name x pos')) pos.line X.env = pure false := by rfl) (hf : X.fn x = true ∨ X.env.scope.names.lookup x = some .local := by first | exact .inl rfl | exact .inr rfl | assumption) :
    PS X (.Assign [.Name x pos'] e pos) (tAsg te (gName i)) := by
  intro pins s σ H D I h
  refine wpAny_Assign_Name (thn (he pins s σ H _ I h) fun v s1 ⟨y, H1, I1, r1, q1⟩ => ?_) hs
  exact store_ok I1 hN hi hx r1 (fun s2 I2 => ⟨_, H1, I2, q1⟩) hf
/-- a, b = x, y with plain local names: stored from the right; the pair itself is not tracked (the opening rows as in PyProof/Rows/TupAssign.lean:23) -/
def tPar (i j : Nat) (ta : TA) : TS := fun D σ H => ta σ H fun vs H1 => ∃ v w, vs = [v, w] ∧ D.nx ((σ.set i (some v)).set j (some w)) H1
theorem ps_par {i j : Nat} {x y : Str} {a b : Expr} {ta : TA} {px py pt : Pos} {kt k2 pt2} (hc : X.calm = true) (hN : X.N.Nodup) (hi : X.N[i]? = some x) (hj : X.N[j]? = some y) (hij : i ≠ j)
    (hx : X.env.scope.names.lookup x = some .local) (hy : X.env.scope.names.lookup y = some .local) (ha : PA X [a, b] ta)
    (hw : swappedStores [.Tuple [.Name x px, .Name y py] kt pt] (.Tuple [a, b] k2 pt2) X.env = pure (some [x, y]))
    (hs : swapsWithSole [.Tuple [.Name x px, .Name y py] kt pt] (.Tuple [a, b] k2 pt2) pos.line X.env = pure false := by rfl) :
    PS X (.Assign [.Tuple [.Name x px, .Name y py] kt pt] (.Tuple [a, b] k2 pt2) pos) (tPar i j ta) := by
  intro pins s σ H D I h
  rw [exec_Assign_arm]
  refine wpAny_bind (wpAny_standAt ?_)
  rw [hs]
  refine wpAny_bind (wpAny_pure ?_)
  rw [if_neg (by decide)]
  refine wpAny_bind (Tuple_ (thn (ha _ pins s σ H _ I h) fun us s1 ⟨vs, H1, I1, r1, q1⟩ => ?_))
  obtain ⟨v, w, e1, q1⟩ := q1
  subst e1
  obtain ⟨u1, u2, rfl, rv, rw'⟩ : ∃ u1 u2, us = [u1, u2] ∧ RelV v u1 ∧ RelV w u2 := by
    cases r1 with
    | cons p q =>
      cases q with
      | cons p' q' =>
        cases q'
        exact ⟨_, _, rfl, p, p'⟩
  refine wpAny_newObj_type ?_ (by show 2 ≤ sizeLine; decide)
  have I2 : Inv X pins σ H1 { s1 with heap := s1.heap.push { cls := .type "tuple", data := .seq [u1, u2].toArray } } := I1.kept (t' := s1.toks) fun b o e => Heap.get?_push_of_some _ e
  rw [hw]
  refine wpAny_bind (wpAny_pure ?_)
  show wpAny (model X.prog X.w) X.A (do rule "assign.swapped-stores"; let items ← unpackItems (.ref s1.heap.objs.size) 2 none; assignInOrder [fun v => bindName X.env y v, fun v => bindName X.env x v] items.reverse; pure Flow.next) _ _ _
  refine wpAny_bind (wpAny_rule (wpAny_bind (unpackItems_tuple (items := #[u1, u2]) (I.ok.hd hc) (IsTup.new s1.heap _) fun h' hx' => ?_)))
  have I3 := I2.kept (h' := h') (t' := s1.toks) fun b o e => hx' b o (Nat.ne_of_lt (Heap.lt_size e)) e
  show wpAny _ _ (assignInOrder [fun v => bindName X.env y v, fun v => bindName X.env x v] [u2, u1] >>= fun _ => pure Flow.next) _ _ _
  refine wpAny_bind (assignInOrder_cons (wpAny_bindName (store_ok I3 hN hj (.inl hy) rw' (fun s2 I4 => ?_) (.inr hy))))
  refine assignInOrder_cons (wpAny_bindName (store_ok I4 hN hi (.inl hx) rv (fun s3 I5 => assignInOrder_nil (wpAny_pure ?_)) (.inr hx)))
  rw [List.set_comm _ _ (Ne.symm hij)] at I5
  exact ⟨_, H1, I5, q1⟩
/-- name op= e -/
def tAug (i : Nat) (te : TE) (ti : TIp) : TS := fun D σ H => ∃ x, σ[i]? = some (some x) ∧ te σ H fun y H1 => ti x y H1 fun z H2 => D.nx (σ.set i (some z)) H2
theorem ps_aug {i : Nat} {x : Str} {e : Expr} {te : TE} {op : Operator} {ti : TIp} {pos' : Pos} (hN : X.N.Nodup) (hi : X.N[i]? = some x) (hx : Loc X.env.scope x) (he : PE X e te) (ho : PIp X op ti) (hf : X.fn x = true ∨ X.env.scope.names.lookup x = some .local := by first | exact .inl rfl | exact .inr rfl | assumption) :
    PS X (.AugAssign (.Name x pos') op e pos) (tAug i te ti) := by
  intro pins s σ H D I h
  obtain ⟨v, e1, h⟩ := h
  obtain ⟨m, hn, hl⟩ := I.loc
  have vis : Vis X.env.scope x := by rcases hx with k | k; exact .inl k; exact .inr (.inl k)
  obtain ⟨u, r, l⟩ := hl i x v hi e1 vis
  refine wpAny_AugAssign_Name ?_
  have go : wpAny (model X.prog X.w) X.A (eval e X.env) (fun w s₂ => wpAny (model X.prog X.w) X.A (inplaceOp op u w) (fun r s₃ => wpAny (model X.prog X.w) X.A (storeName X.env x r) (fun _ => SP X pins D .next) X.xe s₃) X.xe s₂) X.xe s := by
    refine thn (he pins s σ H _ I h) fun w s1 ⟨y, H1, I1, r1, q1⟩ => ?_
    refine thn (ho pins s1 σ H1 v y u w _ I1 r r1 q1) fun z s2 ⟨zv, H2, I2, r2, q2⟩ => ?_
    exact store_ok I2 hN hi hx r2 (fun s3 I3 => ⟨_, H2, I3, q2⟩) hf
  rcases l with ⟨hk, hm⟩ | ⟨hk, c, hc, hcell⟩
  · exact wpAny_loadName_local I.ok.kind hk hn hm go
  · rcases hk with hk | hk
    · exact wpAny_loadName_cell I.ok.kind hk hc hcell go
    · rcases hx with k | k
      · have : X.env.scope.names.lookup x = some .free := hk
        rw [k] at this; cases this
      · have : X.env.scope.names.lookup x = some .free := hk
        rw [k] at this; cases this
/-- o[i] op= e -/
def tAugS (to ti te : TE) (tget : V → V → Hp → VK → Prop) (tip : TIp) (tset : TSet) : TS := fun D σ H => to σ H fun o H1 => ti σ H1 fun i H2 => tget o i H2 fun x H3 => te σ H3 fun y H4 => tip x y H4 fun z H5 => tset o i z H5 fun H6 => D.nx σ H6
/-- o[i], by values -/
def PGet (X : Cx) (t : V → V → Hp → VK → Prop) : Prop :=
  ∀ (pins : List (Addr × Obj)) (s : Shared) (σ : St) (H : Hp) (o i : V) (ov iv : Value) (Q : VK), Inv X pins σ H s → RelV o ov → RelV i iv → t o i H Q →
    wpAny (model X.prog X.w) X.A (getItem ov iv) (EP X pins σ Q) X.xe s
theorem ps_augS {o i e : Expr} {to ti te : TE} {tget : V → V → Hp → VK → Prop} {tip : TIp} {tset : TSet} {op : Operator} {tpos : Pos} (ho : PE X o to) (hi : PE X i ti) (hg : PGet X tget) (he : PE X e te) (hp : PIp X op tip) (hs : PSet X tset)
    (ha : ∀ ov iv new, augStore i ov iv new = (do holding [new, ov, iv] (setItem ov iv new); release [new, ov, iv] []; pure .next) := by intros; rfl) : PS X (.AugAssign (.Subscript o i tpos) op e pos) (tAugS to ti te tget tip tset) := by
  intro pins s σ H D I h
  refine wpAny_AugAssign_SubscriptAny (thn (ho pins s σ H _ I h) fun ov s1 ⟨x1, H1, I1, r1, q1⟩ => ?_) ha
  refine thn (hi pins s1 σ H1 _ I1 q1) fun iv s2 ⟨x2, H2, I2, r2, q2⟩ => ?_
  refine thn (hg pins s2 σ H2 x1 x2 ov iv _ I2 r1 r2 q2) fun old s3 ⟨x3, H3, I3, r3, q3⟩ => ?_
  refine thn (he pins s3 σ H3 _ I3 q3) fun v s4 ⟨x4, H4, I4, r4, q4⟩ => ?_
  refine thn (hp pins s4 σ H4 x3 x4 old v _ I4 r3 r4 q4) fun new s5 ⟨x5, H5, I5, r5, q5⟩ => ?_
  exact thn (hs pins s5 σ H5 x1 x2 x5 ov iv new _ I5 r1 r2 r5 q5) fun _ s6 ⟨H6, I6, q6⟩ => ⟨σ, H6, I6, q6⟩
/-- ints -/
def ipI (f : Int → Int → Int) : TIp := fun x y H Q => ∃ i j, x = .int i ∧ y = .int j ∧ Q (.int (f i j)) H
theorem ip_add : PIp X .Add (ipI fun i j => i + j) := by
  intro pins s σ H x y v u Q I r1 r2 h
  obtain ⟨i, j, e1, e2, q⟩ := h
  subst e1; subst e2
  obtain ⟨t, rfl⟩ := r1
  obtain ⟨t', rfl⟩ := r2
  exact iadd_int ⟨.int _, H, I.tok _, ⟨_, rfl⟩, q⟩
theorem ip_sub : PIp X .Sub (ipI fun i j => i - j) := by
  intro pins s σ H x y v u Q I r1 r2 h
  obtain ⟨i, j, e1, e2, q⟩ := h
  subst e1; subst e2
  obtain ⟨t, rfl⟩ := r1
  obtain ⟨t', rfl⟩ := r2
  exact isub_int ⟨.int _, H, I.tok _, ⟨_, rfl⟩, q⟩
end

/-! ### while -/
section
variable {X : Cx} {pos : Pos}
/-- the invariant W with its measure -/
def tWhile (c : TT) (tb : TS) : TS := fun D σ H => ∃ W : Nat → St → Hp → Prop, (∃ m, W m σ H) ∧ ∀ m σ H, W m σ H →
  c σ H fun b H1 => if b = true then ∃ N : St → Hp → Prop, (∀ σ' H', N σ' H' → ∃ m', m' < m ∧ W m' σ' H') ∧ tb { D with nx := N, ct := N, bk := D.nx } σ H1 else D.nx σ H1
theorem ps_while {c : Expr} {body : List Stmt} {tc : TT} {tb : TS} (hp : PassesOwn (model X.prog X.w) X.A X.env X.xe) (hc : PT X c tc) (hb : PSs X body tb) : PS X (.While c body [] pos) (tWhile tc tb) := by
  intro pins s σ H D I h
  obtain ⟨W, ⟨m0, w0⟩, turn⟩ := h
  refine wpAny_While (codeAny_whileLoop (fun n s' => ∃ σ' H', Inv X pins σ' H' s' ∧ W n σ' H') ?_ m0 ⟨σ, H, I, w0⟩)
  rintro n s1 ⟨σ1, H1, I1, w1⟩
  refine wpAny_passesOwn hp (thn (hc pins s1 σ1 H1 _ I1 (turn n σ1 H1 w1)) fun b s2 ⟨H2, I2, q2⟩ => ?_)
  cases b with
  | true =>
    obtain ⟨N, hN, q2⟩ := q2
    rw [if_pos rfl]
    refine wpAny_passesOwn hp (thn (hb pins s2 σ1 H2 _ I2 q2) fun f s3 q3 => ?_)
    cases f with
    | next =>
      obtain ⟨σ3, H3, I3, n3⟩ := q3
      obtain ⟨m', hm, w3⟩ := hN σ3 H3 n3
      exact ⟨m', hm, σ3, H3, I3, w3⟩
    | cont =>
      obtain ⟨σ3, H3, I3, n3⟩ := q3
      obtain ⟨m', hm, w3⟩ := hN σ3 H3 n3
      exact ⟨m', hm, σ3, H3, I3, w3⟩
    | brk => exact q3
    | ret v => exact q3
  | false =>
    rw [if_neg Bool.false_ne_true]
    exact wpAny_execs_nil ⟨σ1, H2, I2, q2⟩
end

/-! ### what a loop or a comprehension walks -/
/-- at turn i: it yields x (the heap may grow), or it stops -/
structure It where
  go : Nat → Hp → Prop
  yld : Nat → Hp → V → Hp → Prop
  stop : Nat → Hp → Prop
/-- the iterator's own objects may turn: they are not the frame's, not pinned, younger than the entry (or a comprehension's own) -/
def FpOk (X : Cx) (pins : List (Addr × Obj)) (H : Hp) (b : Addr) : Prop :=
  H b = none ∧ b ≠ X.env.locals ∧ b ∉ X.fs ∧ (b ∈ X.ex ∨ X.s₀.heap.objs.size ≤ b) ∧ (∀ x c, X.env.cells.lookup x = some c → c ≠ b) ∧ ∀ p ∈ X.pn ++ pins, p.1 ≠ b
theorem Inv.fpOk {X : Cx} {pins : List (Addr × Obj)} {σ : St} {H H' : Hp} {s : Shared} {b : Addr} (I : Inv X pins σ H s) (hb : s.heap.objs.size ≤ b) (hn : H' b = none) : FpOk X pins H' b := by
  refine ⟨hn, Nat.ne_of_gt (Nat.lt_of_lt_of_le I.lt hb), I.nofs hb, .inr (Nat.le_trans I.sz hb), fun x c e z => ?_, fun p hp z => ?_⟩
  · obtain ⟨v, q⟩ := I.cell x c e
    exact absurd (Nat.lt_of_lt_of_le q.lt (by rw [z]; exact hb)) (Nat.lt_irrefl _)
  · exact absurd (Nat.lt_of_lt_of_le (Heap.lt_size (I.pin p hp).1) (by rw [z]; exact hb)) (Nat.lt_irrefl _)
structure Turn (P : Program) (w : World) (K : PySem.W.Frag) (tg : Expr) (J : It) (fp : List Addr) (it : Addr) (tn : Nat → Heap → Prop) : Prop where
  mem : it ∈ fp
  obj : ∀ i h, tn i h → ∀ b ∈ fp, ∃ o, h.get? b = some o ∧ ∀ v, o.data ≠ .cell v
  keep : ∀ i h h', tn i h → (∀ b ∈ fp, ∀ o, h.get? b = some o → h'.get? b = some o) → tn i h'
  item : ∀ (X : Cx), X.prog = P → X.w = w → X.K = K → X.calm = true → ∀ (i : Nat) (pins : List (Addr × Obj)) (s : Shared) (σ : St) (H : Hp) (E : Value → Shared → Prop), Inv X pins σ H s → (∀ b ∈ fp, FpOk X pins H b) → tn i s.heap → J.go i H →
    wpAny (model P w) X.A (pyNext (.ref it)) (fun r s1 => ∃ u, r = some u ∧
      wpAny (model P w) X.A (letOwnedTupleGo tg (.ref it) u) (fun _ s2 => ∃ x H', Inv X pins σ H' s2 ∧ RelV x u ∧ J.yld i H x H' ∧ tn (i + 1) s2.heap ∧ ∀ b ∈ fp, H' b = none) E s1) E s
  done : ∀ (X : Cx), X.prog = P → X.w = w → X.K = K → X.calm = true → ∀ (i : Nat) (pins : List (Addr × Obj)) (s : Shared) (σ : St) (H : Hp) (E : Value → Shared → Prop), Inv X pins σ H s → (∀ b ∈ fp, FpOk X pins H b) → tn i s.heap → J.stop i H →
    wpAny (model P w) X.A (pyNext (.ref it)) (fun r s1 => r = none ∧ Inv X pins σ H s1) E s
  self : ∀ (A : Around) (i : Nat) (s : Shared) (Q : Value → Shared → Prop) (E : Value → Shared → Prop), tn i s.heap → Q (.ref it) s → wpAny (model P w) A (pyIter (.ref it)) Q E s
abbrev TI := St → Hp → (It → Hp → Prop) → Prop
/-- an iterator has come -/
def PIE (X : Cx) (pins : List (Addr × Obj)) (σ : St) (tg : Expr) (R : It → Hp → Prop) (itv : Value) (s2 : Shared) : Prop :=
  ∃ (it : Addr) (fp : List Addr) (tn : Nat → Heap → Prop) (J : It) (H' : Hp), itv = .ref it ∧ Inv X pins σ H' s2 ∧ Turn X.prog X.w X.K tg J fp it tn ∧ tn 0 s2.heap ∧ (∀ b ∈ fp, FpOk X pins H' b) ∧ R J H'
def PI (X : Cx) (tg iter : Expr) (wi : TI) : Prop :=
  ∀ (pins : List (Addr × Obj)) (s : Shared) (σ : St) (H : Hp) (R : It → Hp → Prop), Inv X pins σ H s → wi σ H R →
    wpAny (model X.prog X.w) X.A (eval iter X.env) (fun v s1 => wpAny (model X.prog X.w) X.A (pyIter v) (PIE X pins σ tg R) X.xe s1) X.xe s

/-- the step ahead of the store is nothing for an iterator that keeps no tuple -/
theorem go_of {M : Model} {A : Around} {E : Value → Shared → Prop} {s : Shared} {tg : Expr} {it : Addr} {u : Value} {o : Obj} {n : String} {vs : Array Value} {Q : Unit → Shared → Prop} (ho : s.heap.get? it = some o) (hc : o.cls = .type n) (hd : o.data = .fields vs)
    (hn : ["enumerate", "zip", "dict_itemiterator", "dict_reverseitemiterator", "odict_iterator", "itertools.zip_longest", "itertools.pairwise"].contains n = false) (hQ : Q () s) : wpAny M A (letOwnedTupleGo tg (.ref it) u) Q E s := by
  unfold letOwnedTupleGo
  cases tg <;> first
    | exact wpAny_pure hQ
    | (cases u <;> first
        | exact wpAny_pure hQ
        | (refine wpAny_bind (wpAny_load ho ?_)
           rw [hc, hd]
           show wpAny M A (if (["enumerate", "zip", "dict_itemiterator", "dict_reverseitemiterator", "odict_iterator", "itertools.zip_longest", "itertools.pairwise"].contains n && vs[0]? == some (rawInt _)) = true then _ else _) Q E s
           rw [if_neg (by intro h; rw [hn, Bool.false_and] at h; cases h)]
           exact wpAny_pure hQ))

/-- the list at a, as it stands at each turn (a loop may append to it) -/
def Itl (K : PySem.W.Frag) (a : Addr) : It :=
  ⟨fun i H => ∃ xs x, SqL K H a xs ∧ xs[i]? = some x, fun i H x H' => H' = H ∧ ∀ xs, SqL K H a xs → xs[i]? = some x, fun i H => ∃ xs, SqL K H a xs ∧ xs.length ≤ i⟩
def Itt (K : PySem.W.Frag) (a : Addr) : It :=
  ⟨fun i H => ∃ xs x, SqT K H a xs ∧ xs[i]? = some x, fun i H x H' => H' = H ∧ ∀ xs, SqT K H a xs → xs[i]? = some x, fun i H => ∃ xs, SqT K H a xs ∧ xs.length ≤ i⟩
/-- lo, lo + 1, .. (n of them) -/
def Itr (lo : Int) (n : Nat) : It := ⟨fun i _ => i < n, fun i H x H' => H' = H ∧ x = .int (lo + i), fun i _ => n ≤ i⟩
theorem turn_list {P : Program} {w : World} {K : PySem.W.Frag} {tg : Expr} (a it : Addr) : Turn P w K tg (Itl K a) [it] it (fun i h => h.IsListIter it a i) where
  mem := by simp
  obj := fun i h st b hb => by
    have e : b = it := by simpa using hb
    subst e
    obtain ⟨o, e, c, d⟩ := st
    exact ⟨o, e, fun v z => by rw [d] at z; cases z⟩
  keep := fun i h h' st k => st.at fun o e => k it (by simp) o e
  item := by
    intro X hP hw hK hc i pins s σ H E I hf st hg
    subst hP hw hK
    obtain ⟨xs, x, hq, hx⟩ := hg
    obtain ⟨its, rv, p, hz⟩ := I.list hq
    obtain ⟨u, hu, ru⟩ := rv.get hx
    obtain ⟨f0, f1, f2, f3, f4, f5⟩ := hf it (by simp)
    refine wpAny_pyNext_list_item st p.isList (x := u) (by simpa using hu) fun h' st' sb => ?_
    have I1 : Inv X pins σ H { s with heap := h' } := I.turned (t' := s.toks) (fun b o hb e => (sb.2 b hb).trans e) f0 f1 f3 f4 f5
    obtain ⟨o, e, c, d⟩ := id st'
    exact ⟨u, rfl, go_of (s := { s with heap := h' }) e c d (by decide) ⟨x, H, I1, ru, ⟨rfl, fun ys hy => by rw [I.list_inj hy hq]; exact hx⟩, st', fun b hb => (hf b hb).1⟩⟩
  done := by
    intro X hP hw hK hc i pins s σ H E I hf st hg
    subst hP hw hK
    obtain ⟨xs, hq, hx⟩ := hg
    obtain ⟨its, rv, p, hz⟩ := I.list hq
    obtain ⟨f0, f1, f2, f3, f4, f5⟩ := hf it (by simp)
    have hl := rv.length
    exact wpAny_pyNext_list_end (I.ok.hd hc) st p.isList (by simp; omega) fun h' eb => ⟨rfl, I.turned (t' := s.toks) (fun b o hb e => eb b o hb e) f0 f1 f3 f4 f5⟩
  self := fun _ _ _ _ _ st h => wpAny_pyIter_listiter st h
theorem turn_tuple {P : Program} {w : World} {K : PySem.W.Frag} {tg : Expr} (a it : Addr) : Turn P w K tg (Itt K a) [it] it (fun i h => h.IsTupleIter it a i) where
  mem := by simp
  obj := fun i h st b hb => by
    have e : b = it := by simpa using hb
    subst e
    obtain ⟨o, e, c, d⟩ := st
    exact ⟨o, e, fun v z => by rw [d] at z; cases z⟩
  keep := fun i h h' st k => st.at fun o e => k it (by simp) o e
  item := by
    intro X hP hw hK hc i pins s σ H E I hf st hg
    subst hP hw hK
    obtain ⟨xs, x, hq, hx⟩ := hg
    obtain ⟨its, rv, p, hz⟩ := I.tuple hq
    obtain ⟨u, hu, ru⟩ := rv.get hx
    obtain ⟨f0, f1, f2, f3, f4, f5⟩ := hf it (by simp)
    refine wpAny_pyNext_tuple_item st (show s.heap.IsTuple a its.toArray from p) (x := u) (by simpa using hu) fun h' st' sb => ?_
    have I1 : Inv X pins σ H { s with heap := h' } := I.turned (t' := s.toks) (fun b o hb e => (sb.2 b hb).trans e) f0 f1 f3 f4 f5
    obtain ⟨o, e, c, d⟩ := id st'
    exact ⟨u, rfl, go_of (s := { s with heap := h' }) e c d (by decide) ⟨x, H, I1, ru, ⟨rfl, fun ys hy => by rw [I.tuple_inj hy hq]; exact hx⟩, st', fun b hb => (hf b hb).1⟩⟩
  done := by
    intro X hP hw hK hc i pins s σ H E I hf st hg
    subst hP hw hK
    obtain ⟨xs, hq, hx⟩ := hg
    obtain ⟨its, rv, p, hz⟩ := I.tuple hq
    obtain ⟨f0, f1, f2, f3, f4, f5⟩ := hf it (by simp)
    have hl := rv.length
    exact wpAny_pyNext_tuple_end (I.ok.hd hc) st (show s.heap.IsTuple a its.toArray from p) (by simp; omega) fun h' eb => ⟨rfl, I.turned (t' := s.toks) (fun b o hb e => eb b o hb e) f0 f1 f3 f4 f5⟩
  self := fun _ _ _ _ _ st h => wpAny_pyIter_tupleiter st h
theorem turn_range {P : Program} {w : World} {K : PySem.W.Frag} {tg : Expr} (it : Addr) (lo : Int) (n : Nat) : Turn P w K tg (Itr lo n) [it] it (fun i h => IsRangeIter h it (lo + (i : Nat) * 1) ((n : Int) - (i : Nat)) 1) where
  mem := by simp
  obj := fun i h st b hb => by
    have e : b = it := by simpa using hb
    subst e
    exact ⟨_, st, fun v z => by
      have z' : Data.fields _ = Data.cell v := z
      cases z'⟩
  keep := fun i h h' st k => k it (by simp) _ st
  item := by
    intro X hP hw hK hc i pins s σ H E I hf st hg
    subst hP hw hK
    obtain ⟨f0, f1, f2, f3, f4, f5⟩ := hf it (by simp)
    have W := Walks.range (prog := X.prog) (w := X.w) (I.ok.hd hc) it lo 1 n
    refine W.item i s _ _ hg st fun v h' tk hv st' kk => ?_
    obtain ⟨t, rfl⟩ := hv
    have I1 : Inv X pins σ H { s with heap := h', toks := tk } := I.turned (fun b o hb e => kk b o (by simpa using hb) e) f0 f1 f3 f4 f5
    refine ⟨_, rfl, go_of (s := { s with heap := h', toks := tk }) (n := "range_iterator") st' rfl rfl (by decide) ⟨.int (lo + i), H, I1, ⟨t, ?_⟩, ⟨rfl, rfl⟩, st', fun b hb => (hf b hb).1⟩⟩
    rw [Int.mul_one]
  done := by
    intro X hP hw hK hc i pins s σ H E I hf st hg
    subst hP hw hK
    obtain ⟨f0, f1, f2, f3, f4, f5⟩ := hf it (by simp)
    exact wpAny_pyNext_range_end (I.ok.hd hc) st (by have : n ≤ i := hg; omega) fun h' eb => ⟨rfl, I.turned (t' := s.toks) (fun b o hb e => eb b o hb e) f0 f1 f3 f4 f5⟩
  self := fun _ _ _ _ _ st h => wpAny_pyIter_rangeiter st h
end L2

namespace L2
open PySem PySem.Spec PyProof.Rows
section
variable {X : Cx} {tg : Expr}
def iList (K : PySem.W.Frag) (tl : TE) : TI := fun σ H R => tl σ H fun x H1 => ∃ a, x = .ref a ∧ (∃ xs, SqL K H1 a xs) ∧ R (Itl K a) H1
def iTup (K : PySem.W.Frag) (tl : TE) : TI := fun σ H R => tl σ H fun x H1 => ∃ a, x = .ref a ∧ (∃ xs, SqT K H1 a xs) ∧ R (Itt K a) H1
theorem pi_list {l : Expr} {tl : TE} (hl : PE X l tl) : PI X tg l (iList X.K tl) := by
  intro pins s σ H R I h
  refine thn (hl pins s σ H _ I h) fun v s1 ⟨x, H1, I1, r1, q1⟩ => ?_
  obtain ⟨a, e, ⟨xs, hq⟩, q⟩ := q1
  subst e
  cases r1
  obtain ⟨its, rv, p, hz⟩ := I1.list hq
  refine wpAny_pyIter_list p.isList ?_
  refine ⟨s1.heap.objs.size, [s1.heap.objs.size], _, _, H1, rfl, I1.kept (t' := s1.toks) fun b o e => Heap.get?_push_of_some _ e, turn_list a _, ⟨_, Heap.get?_push_size _ rfl, rfl, rfl⟩, fun b hb => ?_, q⟩
  have e : b = s1.heap.objs.size := by simpa using hb
  subst e
  exact I1.fpOk (Nat.le_refl _) (I1.hok.fresh (Nat.le_refl _))
theorem pi_tup {l : Expr} {tl : TE} (hl : PE X l tl) : PI X tg l (iTup X.K tl) := by
  intro pins s σ H R I h
  refine thn (hl pins s σ H _ I h) fun v s1 ⟨x, H1, I1, r1, q1⟩ => ?_
  obtain ⟨a, e, ⟨xs, hq⟩, q⟩ := q1
  subst e
  cases r1
  obtain ⟨its, rv, p, hz⟩ := I1.tuple hq
  refine wpAny_pyIter_tuple (show s1.heap.IsTuple a its.toArray from p) ?_
  refine ⟨s1.heap.objs.size, [s1.heap.objs.size], _, _, H1, rfl, I1.kept (t' := s1.toks) fun b o e => Heap.get?_push_of_some _ e, turn_tuple a _, ⟨_, Heap.get?_push_size _ rfl, rfl, rfl⟩, fun b hb => ?_, q⟩
  have e : b = s1.heap.objs.size := by simpa using hb
  subst e
  exact I1.fpOk (Nat.le_refl _) (I1.hok.fresh (Nat.le_refl _))
/-- a range object just made, walked -/
theorem range_it {pins : List (Addr × Obj)} {σ : St} {H : Hp} {s : Shared} {R : It → Hp → Prop} {E : Value → Shared → Prop} {lo hi : Int} {t u v : Tok} {tk : Nat} (I : Inv X pins σ H s) (h1 : -(2 ^ 62) ≤ lo) (h2 : lo < 2 ^ 62) (h3 : -(2 ^ 62) ≤ hi) (h4 : hi < 2 ^ 62)
    (q : R (Itr lo (hi - lo).toNat) H) : wpAny (model X.prog X.w) X.A (pyIter (.ref s.heap.objs.size)) (PIE X pins σ tg R) E { s with heap := s.heap.push { cls := .type "range", data := .fields #[.int lo t, .int hi u, .int 1 v] }, toks := tk } := by
  refine wpAny_pyIter_range (IsRange.new ..) (small_one h1 h2 h3 h4) ?_
  have I1 : Inv X pins σ H { s with heap := s.heap.push { cls := .type "range", data := .fields #[.int lo t, .int hi u, .int 1 v] }, toks := tk } := I.kept fun b o e => Heap.get?_push_of_some _ e
  refine ⟨(s.heap.push { cls := .type "range", data := .fields #[.int lo t, .int hi u, .int 1 v] }).objs.size, [(s.heap.push { cls := .type "range", data := .fields #[.int lo t, .int hi u, .int 1 v] }).objs.size], _, _, H, rfl,
    I1.kept (t' := tk) fun b o e => Heap.get?_push_of_some _ e, turn_range _ lo (hi - lo).toNat, ?_, fun b hb => ?_, q⟩
  · have e1 : lo + ((0 : Nat) : Int) * 1 = lo := by simp
    have e2 : (((hi - lo).toNat : Nat) : Int) - ((0 : Nat) : Int) = Builtin.Range.rangeSize lo hi 1 := by rw [rangeSize_one]; split <;> omega
    show IsRangeIter _ _ (lo + ((0 : Nat) : Int) * 1) ((((hi - lo).toNat : Nat) : Int) - ((0 : Nat) : Int)) 1
    rw [e1, e2]
    exact Heap.get?_push_size _ rfl
  · have e : b = (s.heap.push { cls := .type "range", data := .fields #[.int lo t, .int hi u, .int 1 v] }).objs.size := by simpa using hb
    subst e
    exact I1.fpOk (Nat.le_refl _) (I1.hok.fresh (Nat.le_refl _))
def iRng1 (ta : TA) : TI := fun σ H R => ta σ H fun vs H1 => ∃ j : Int, vs = [.int j] ∧ -(2 ^ 62) ≤ j ∧ j < 2 ^ 62 ∧ R (Itr 0 j.toNat) H1
def iRng2 (ta : TA) : TI := fun σ H R => ta σ H fun vs H1 => ∃ i j : Int, vs = [.int i, .int j] ∧ (-(2 ^ 62) ≤ i ∧ i < 2 ^ 62 ∧ -(2 ^ 62) ≤ j ∧ j < 2 ^ 62) ∧ R (Itr i (j - i).toNat) H1
theorem pi_range1 {a : Expr} {ta : TA} {p pos : Pos} (hg : Gl X "range") (hm : X.mg "range" = none) (ha : PA X [a] ta) (hs : starEach [a] X.env = [(false, eval a X.env)] := by rfl) : PI X tg (.Call (.Name "range" p) [a] [] pos) (iRng1 ta) := by
  intro pins s σ H R I h
  refine Call_ (ld_blt I hg hm boot_range (PyProof.Rows.callWith_type1 (thn (ha pos pins s σ H _ I h) fun us s1 ⟨vs, H1, I1, r1, q1⟩ => ?_) hs rfl))
  obtain ⟨j, e, q1, q2, q⟩ := q1
  subst e
  cases r1 with
  | cons r rr =>
    cases rr
    obtain ⟨t, rfl⟩ := r
    exact call_range_1 (range_it I1 (by omega) (by omega) q1 q2 (by simpa using q))
theorem pi_range2 {a b : Expr} {ta : TA} {p pos : Pos} (hg : Gl X "range") (hm : X.mg "range" = none) (ha : PA X [a, b] ta) (hs : starEach [a, b] X.env = [(false, eval a X.env), (false, eval b X.env)] := by rfl) (hs2 : starEach [b] X.env = [(false, eval b X.env)] := by rfl) :
    PI X tg (.Call (.Name "range" p) [a, b] [] pos) (iRng2 ta) := by
  intro pins s σ H R I h
  refine Call_ (ld_blt I hg hm boot_range (PyProof.Rows.callWith_type1 (thn (ha pos pins s σ H _ I h) fun us s1 ⟨vs, H1, I1, r1, q1⟩ => ?_) (by rw [hs, hs2]) (by rw [hs2]; rfl)))
  obtain ⟨i, j, e, ⟨q1, q2, q3, q4⟩, q⟩ := q1
  subst e
  cases r1 with
  | cons r rr =>
    cases rr with
    | cons r' rr =>
      cases rr
      obtain ⟨t, rfl⟩ := r
      obtain ⟨t', rfl⟩ := r'
      exact call_range_2 (range_it I1 q1 q2 q3 q4 q)

/-! ### for -/
/-- W: the invariant by the turn and a measure; N: what the body is to reach -/
def tFor (wi : TI) (g : TG) (tb : TS) : TS := fun D σ H => wi σ H fun J H1 => ∃ W : Nat → Nat → St → Hp → Prop, (∃ m, W 0 m σ H1) ∧ ∀ i m σ H, W i m σ H →
  (J.stop i H ∧ D.nx σ H) ∨ (J.go i H ∧ ∃ N : St → Hp → Prop, (∀ σ' H', N σ' H' → ∃ m', m' < m ∧ W (i + 1) m' σ' H') ∧ ∀ x H', J.yld i H x H' → g x σ H' fun σ2 H2 => tb { D with nx := N, ct := N, bk := D.nx } σ2 H2)
/-- the records at fp as they stand -/
def pinsAt (fp : List Addr) (h : Heap) : List (Addr × Obj) := fp.filterMap fun b => (h.get? b).map fun o => (b, o)
theorem mem_pinsAt {fp : List Addr} {h : Heap} {b : Addr} {o : Obj} (hb : b ∈ fp) (e : h.get? b = some o) : (b, o) ∈ pinsAt fp h := List.mem_filterMap.mpr ⟨b, hb, by rw [e]; rfl⟩
theorem of_pinsAt {fp : List Addr} {h : Heap} {p : Addr × Obj} (hp : p ∈ pinsAt fp h) : p.1 ∈ fp ∧ h.get? p.1 = some p.2 := by
  obtain ⟨b, hb, e⟩ := List.mem_filterMap.mp hp
  cases q : h.get? b with
  | none => rw [q] at e; cases e
  | some o =>
    rw [q] at e
    have e' : (b, o) = p := Option.some.inj e
    subst e'
    exact ⟨hb, q⟩
theorem Inv.pinned {pins : List (Addr × Obj)} {σ : St} {H : Hp} {s : Shared} {fp : List Addr} (I : Inv X pins σ H s) (hf : ∀ b ∈ fp, FpOk X pins H b) (ho : ∀ b ∈ fp, ∃ o, s.heap.get? b = some o ∧ ∀ v, o.data ≠ .cell v) : Inv X (pins ++ pinsAt fp s.heap) σ H s :=
  I.pins_of fun p hp => (List.mem_append.mp hp).elim (fun z => I.pin p (List.mem_append_right _ z)) fun z => by
    obtain ⟨hb, e⟩ := of_pinsAt z
    obtain ⟨f0, f1, f2, _⟩ := hf p.1 hb
    obtain ⟨o, e', d⟩ := ho p.1 hb
    rw [e] at e'; cases e'
    exact ⟨e, f0, f1, f2, d⟩
theorem Inv.unpinned {pins pl : List (Addr × Obj)} {σ : St} {H : Hp} {s : Shared} (I : Inv X (pins ++ pl) σ H s) : Inv X pins σ H s := I.pins_of fun p hp => I.pin p (List.mem_append_right _ (List.mem_append_left _ hp))
theorem ps_for {iter : Expr} {body : List Stmt} {wi : TI} {g : TG} {tb : TS} {pos : Pos} (hp : PassesOwn (model X.prog X.w) X.A X.env X.xe) (hc : X.calm = true) (hi : PI X tg iter wi) (hg : PG X tg g) (hb : PSs X body tb)
    (hs : ∀ x, foldedSetIterable iter X.env x = pure x := by intro _; rfl) : PS X (.For tg iter body [] pos) (tFor wi g tb) := by
  intro pins s σ H D I h
  refine wpAny_For (thn (hi pins s σ H _ I h) fun v s1 h1 => thn h1 fun itv s2 h2 => ?_) hs
  obtain ⟨it, fp, tn, J, H2, e, I2, T, st2, f2, W, ⟨m0, w0⟩, turn⟩ := h2
  subst e
  -- what stays true of the iterator's objects through the loop
  have stat : ∀ {H' : Hp}, (∀ b ∈ fp, H' b = none) → ∀ b ∈ fp, FpOk X pins H' b := fun hn b hb => ⟨hn b hb, (f2 b hb).2⟩
  refine codeAny_forLoop_any (fun n s' => ∃ i σ' H', Inv X pins σ' H' s' ∧ tn i s'.heap ∧ (∀ b ∈ fp, H' b = none) ∧ W i n σ' H') ?_ m0 ⟨0, σ, H2, I2, st2, fun b hb => (f2 b hb).1, w0⟩
  rintro n s3 ⟨i, σ3, H3, I3, st3, fr3, w3⟩
  rcases turn i n σ3 H3 w3 with ⟨stop, qn⟩ | ⟨go, N, hN, step⟩
  · refine wpAny_passesOwn hp (thn (T.done X rfl rfl rfl hc i pins s3 σ3 H3 X.xe I3 (stat fr3) st3 stop) fun r s4 ⟨hr, I4⟩ => ?_)
    subst hr
    exact wpAny_execs_nil ⟨σ3, H3, I4, qn⟩
  · refine wpAny_passesOwn hp (thn (T.item X rfl rfl rfl hc i pins s3 σ3 H3 X.xe I3 (stat fr3) st3 go) fun r s4 ⟨u, hr, h4⟩ => ?_)
    subst hr
    refine wpAny_passesOwn hp (thn h4 fun _ s5 ⟨x, H5, I5, r5, y5, st5, fr5⟩ => ?_)
    have I5' := I5.pinned (stat fr5) (T.obj _ _ st5)
    refine wpAny_passesOwn hp (thn (hg _ s5 σ3 H5 x u _ I5' r5 (step x H5 y5)) fun _ s6 ⟨σ6, H6, I6, q6⟩ => ?_)
    refine wpAny_passesOwn hp (thn (hb _ s6 σ6 H6 _ I6 q6) fun f s7 q7 => ?_)
    have again : ∀ {σ7 : St} {H7 : Hp}, Inv X (pins ++ pinsAt fp s5.heap) σ7 H7 s7 → N σ7 H7 → ∃ m, m < n ∧ ∃ i σ' H', Inv X pins σ' H' s7 ∧ tn i s7.heap ∧ (∀ b ∈ fp, H' b = none) ∧ W i m σ' H' := fun {σ7 H7} I7 n7 => by
      obtain ⟨m', hm, w7⟩ := hN σ7 H7 n7
      refine ⟨m', hm, i + 1, σ7, H7, I7.unpinned, T.keep _ _ _ st5 fun b hb o e => (I7.pin (b, o) (List.mem_append_right _ (List.mem_append_right _ (mem_pinsAt hb e)))).1, fun b hb => ?_, w7⟩
      obtain ⟨o, e, d⟩ := T.obj _ _ st5 b hb
      exact (I7.pin (b, o) (List.mem_append_right _ (List.mem_append_right _ (mem_pinsAt hb e)))).2.1
    cases f with
    | next => obtain ⟨σ7, H7, I7, n7⟩ := q7; exact again I7 n7
    | cont => obtain ⟨σ7, H7, I7, n7⟩ := q7; exact again I7 n7
    | brk => obtain ⟨σ7, H7, I7, q7⟩ := q7; exact ⟨σ7, H7, I7.unpinned, q7⟩
    | ret v => obtain ⟨x7, σ7, H7, I7, r7, q7⟩ := q7; exact ⟨x7, σ7, H7, I7.unpinned, r7, q7⟩
end

/-! ### the forms one uses -/
/-- over a list that the body leaves as it is -/
theorem for_list {K : PySem.W.Frag} {a : Addr} {xs : List V} {g : TG} {tb : TS} {D : Ends} {σ : St} {H : Hp} (Pv : Nat → St → Hp → Prop) (h0 : Pv 0 σ H) (hl : ∀ i σ H, i ≤ xs.length → Pv i σ H → SqL K H a xs)
    (hs : ∀ i x σ H, xs[i]? = some x → Pv i σ H → g x σ H fun σ2 H2 => tb { D with nx := Pv (i + 1), ct := Pv (i + 1), bk := D.nx } σ2 H2) (hd : ∀ σ H, Pv xs.length σ H → D.nx σ H) :
    ∃ W : Nat → Nat → St → Hp → Prop, (∃ m, W 0 m σ H) ∧ ∀ i m σ H, W i m σ H →
      ((Itl K a).stop i H ∧ D.nx σ H) ∨ ((Itl K a).go i H ∧ ∃ N : St → Hp → Prop, (∀ σ' H', N σ' H' → ∃ m', m' < m ∧ W (i + 1) m' σ' H') ∧ ∀ x H', (Itl K a).yld i H x H' → g x σ H' fun σ2 H2 => tb { D with nx := N, ct := N, bk := D.nx } σ2 H2) := by
  refine ⟨fun i m σ H => m = xs.length - i ∧ i ≤ xs.length ∧ Pv i σ H, ⟨xs.length, by simp, Nat.zero_le _, h0⟩, ?_⟩
  rintro i m σ H ⟨rfl, hi, p⟩
  have q := hl i σ H hi p
  by_cases hlt : i < xs.length
  · refine .inr ⟨⟨xs, xs[i], q, by simp [hlt]⟩, Pv (i + 1), fun σ' H' p' => ⟨xs.length - (i + 1), by omega, rfl, hlt, p'⟩, fun x H' y => ?_⟩
    obtain ⟨e, y⟩ := y
    subst e
    exact hs i x σ _ (y xs q) p
  · have e : i = xs.length := by omega
    subst e
    exact .inl ⟨⟨xs, q, Nat.le_refl _⟩, hd σ H p⟩
theorem for_tup {K : PySem.W.Frag} {a : Addr} {xs : List V} {g : TG} {tb : TS} {D : Ends} {σ : St} {H : Hp} (Pv : Nat → St → Hp → Prop) (h0 : Pv 0 σ H) (hl : ∀ i σ H, i ≤ xs.length → Pv i σ H → SqT K H a xs)
    (hs : ∀ i x σ H, xs[i]? = some x → Pv i σ H → g x σ H fun σ2 H2 => tb { D with nx := Pv (i + 1), ct := Pv (i + 1), bk := D.nx } σ2 H2) (hd : ∀ σ H, Pv xs.length σ H → D.nx σ H) :
    ∃ W : Nat → Nat → St → Hp → Prop, (∃ m, W 0 m σ H) ∧ ∀ i m σ H, W i m σ H →
      ((Itt K a).stop i H ∧ D.nx σ H) ∨ ((Itt K a).go i H ∧ ∃ N : St → Hp → Prop, (∀ σ' H', N σ' H' → ∃ m', m' < m ∧ W (i + 1) m' σ' H') ∧ ∀ x H', (Itt K a).yld i H x H' → g x σ H' fun σ2 H2 => tb { D with nx := N, ct := N, bk := D.nx } σ2 H2) := by
  refine ⟨fun i m σ H => m = xs.length - i ∧ i ≤ xs.length ∧ Pv i σ H, ⟨xs.length, by simp, Nat.zero_le _, h0⟩, ?_⟩
  rintro i m σ H ⟨rfl, hi, p⟩
  have q := hl i σ H hi p
  by_cases hlt : i < xs.length
  · refine .inr ⟨⟨xs, xs[i], q, by simp [hlt]⟩, Pv (i + 1), fun σ' H' p' => ⟨xs.length - (i + 1), by omega, rfl, hlt, p'⟩, fun x H' y => ?_⟩
    obtain ⟨e, y⟩ := y
    subst e
    exact hs i x σ _ (y xs q) p
  · have e : i = xs.length := by omega
    subst e
    exact .inl ⟨⟨xs, q, Nat.le_refl _⟩, hd σ H p⟩
theorem for_range {lo : Int} {n : Nat} {g : TG} {tb : TS} {D : Ends} {σ : St} {H : Hp} (Pv : Nat → St → Hp → Prop) (h0 : Pv 0 σ H)
    (hs : ∀ i σ H, i < n → Pv i σ H → g (.int (lo + i)) σ H fun σ2 H2 => tb { D with nx := Pv (i + 1), ct := Pv (i + 1), bk := D.nx } σ2 H2) (hd : ∀ σ H, Pv n σ H → D.nx σ H) :
    ∃ W : Nat → Nat → St → Hp → Prop, (∃ m, W 0 m σ H) ∧ ∀ i m σ H, W i m σ H →
      ((Itr lo n).stop i H ∧ D.nx σ H) ∨ ((Itr lo n).go i H ∧ ∃ N : St → Hp → Prop, (∀ σ' H', N σ' H' → ∃ m', m' < m ∧ W (i + 1) m' σ' H') ∧ ∀ x H', (Itr lo n).yld i H x H' → g x σ H' fun σ2 H2 => tb { D with nx := N, ct := N, bk := D.nx } σ2 H2) := by
  refine ⟨fun i m σ H => m = n - i ∧ i ≤ n ∧ Pv i σ H, ⟨n, by simp, Nat.zero_le _, h0⟩, ?_⟩
  rintro i m σ H ⟨rfl, hi, p⟩
  by_cases hlt : i < n
  · refine .inr ⟨hlt, Pv (i + 1), fun σ' H' p' => ⟨n - (i + 1), by omega, rfl, hlt, p'⟩, fun x H' y => ?_⟩
    obtain ⟨e, y⟩ := y
    subst e y
    exact hs i σ _ hlt p
  · have e : i = n := by omega
    subst e
    exact .inl ⟨Nat.le_refl _, hd σ H p⟩
/-- while, by a word and a measure of the state -/
theorem while_by {c : TT} {tb : TS} {D : Ends} {σ : St} {H : Hp} (Pv : St → Hp → Prop) (μ : St → Hp → Nat) (h0 : Pv σ H)
    (hs : ∀ σ H, Pv σ H → c σ H fun b H1 => if b = true then tb { D with nx := fun σ' H' => Pv σ' H' ∧ μ σ' H' < μ σ H, ct := fun σ' H' => Pv σ' H' ∧ μ σ' H' < μ σ H, bk := D.nx } σ H1 else D.nx σ H1)
    (mono : ∀ σ H Q Q', (∀ b H1, Q b H1 → Q' b H1) → c σ H Q → c σ H Q') : tWhile c tb D σ H := by
  refine ⟨fun m σ H => m = μ σ H ∧ Pv σ H, ⟨_, rfl, h0⟩, ?_⟩
  rintro m σ H ⟨rfl, p⟩
  refine mono σ H _ _ (fun b H1 q => ?_) (hs σ H p)
  cases b with
  | true => exact ⟨_, fun σ' H' ⟨p', l⟩ => ⟨_, l, rfl, p'⟩, q⟩
  | false => exact q
end L2

namespace L2
open PySem PySem.Spec PyProof.Rows

abbrev R2 := V → V → Hp → VK → Prop
/-- a two-place operation on values: f is binaryOp op, inplaceOp op or compareOp op -/
def OpR (X : Cx) (f : Value → Value → Sem Value) (r : R2) : Prop :=
  ∀ (pins : List (Addr × Obj)) (s : Shared) (σ : St) (H : Hp) (x y : V) (v u : Value) (Q : VK), Inv X pins σ H s → RelV x v → RelV y u → r x y H Q →
    wpAny (model X.prog X.w) X.A (f v u) (EP X pins σ Q) X.xe s
/-- a one-place operation -/
def UnR (X : Cx) (f : Value → Sem Value) (r : V → Hp → VK → Prop) : Prop :=
  ∀ (pins : List (Addr × Obj)) (s : Shared) (σ : St) (H : Hp) (x : V) (v : Value) (Q : VK), Inv X pins σ H s → RelV x v → r x H Q →
    wpAny (model X.prog X.w) X.A (f v) (EP X pins σ Q) X.xe s
/-- a call of a value that is known (a builtin, a type) with values -/
def CallR (X : Cx) (f : Value) (r : List V → Hp → VK → Prop) : Prop :=
  ∀ (pins : List (Addr × Obj)) (s : Shared) (σ : St) (H : Hp) (xs : List V) (us : List Value) (Q : VK), Inv X pins σ H s → Vals xs us → r xs H Q →
    wpAny (model X.prog X.w) X.A (call f us) (EP X pins σ Q) X.xe s
/-- a value's truth -/
def TruR (X : Cx) (r : V → Hp → (Bool → Hp → Prop) → Prop) : Prop :=
  ∀ (pins : List (Addr × Obj)) (s : Shared) (σ : St) (H : Hp) (x : V) (v : Value) (Q : Bool → Hp → Prop), Inv X pins σ H s → RelV x v → r x H Q →
    wpAny (model X.prog X.w) X.A (truthy v) (TP X pins σ Q) X.xe s

def tOp (r : R2) (ta tb : TE) : TE := fun σ H Q => ta σ H fun x H1 => tb σ H1 fun y H2 => r x y H2 Q
def tUn (r : V → Hp → VK → Prop) (ta : TE) : TE := fun σ H Q => ta σ H fun x H1 => r x H1 Q
/-- ints in, under C, and a value out -/
def rI (C : Int → Int → Prop) (g : Int → Int → V) : R2 := fun x y H Q => ∃ i j, x = .int i ∧ y = .int j ∧ C i j ∧ Q (g i j) H
def rI0 (g : Int → Int → V) : R2 := fun x y H Q => ∃ i j, x = .int i ∧ y = .int j ∧ Q (g i j) H
def rU (g : Int → V) : V → Hp → VK → Prop := fun x H Q => ∃ i, x = .int i ∧ Q (g i) H

section
variable {X : Cx} {a b c : Expr} {ta tb tc : TE} {pos : Pos}

theorem binT (ha : PE X a ta) (hb : PE X b tb) {pins : List (Addr × Obj)} {s : Shared} {σ : St} {H : Hp} {R : V → V → Hp → Prop} (I : Inv X pins σ H s)
    (h : ta σ H fun x H1 => tb σ H1 fun y H2 => R x y H2) {Q : Value → Shared → Prop} {f : Value → Value → Sem Value}
    (hf : ∀ v u s2 x y H2, Inv X pins σ H2 s2 → RelV x v → RelV y u → R x y H2 → wpAny (model X.prog X.w) X.A (f v u) Q X.xe s2) :
    wpAny (model X.prog X.w) X.A (eval a X.env) (fun v s₁ => wpAny (model X.prog X.w) X.A (eval b X.env) (fun u s₂ => wpAny (model X.prog X.w) X.A (f v u) Q X.xe s₂) X.xe s₁) X.xe s := by
  refine thn (ha pins s σ H _ I h) fun v s1 ⟨x, H1, I1, r1, q1⟩ => ?_
  refine thn (hb pins s1 σ H1 _ I1 q1) fun u s2 ⟨y, H2, I2, r2, q2⟩ => ?_
  exact hf v u s2 x y H2 I2 r1 r2 q2

theorem pe_op {op : Operator} {r : R2} (ho : OpR X (binaryOp op) r) (ha : PE X a ta) (hb : PE X b tb) : PE X (.BinOp a op b pos) (tOp r ta tb) := by
  intro pins s σ H Q I h
  exact wpAny_BinOp (binT ha hb I h fun v u s2 x y H2 I2 rx ry q => ho pins s2 σ H2 x y v u Q I2 rx ry q)
theorem pe_un {op : UnaryOp} {r : V → Hp → VK → Prop} (ho : UnR X (unaryOp op) r) (ha : PE X a ta) : PE X (.UnaryOp op a pos) (tUn r ta) := by
  intro pins s σ H Q I h
  exact UnaryOp_ (thn (ha pins s σ H _ I h) fun v s1 ⟨x, H1, I1, r1, q1⟩ => ho pins s1 σ H1 x v Q I1 r1 q1)
/-- a op= e at a name: the name's slot i -/
theorem augR {op : Operator} {r : R2} (ho : OpR X (inplaceOp op) r) {pins : List (Addr × Obj)} {s : Shared} {σ : St} {H : Hp} {x y : V} {v u : Value} {Q : VK} (I : Inv X pins σ H s)
    (rx : RelV x v) (ry : RelV y u) (q : r x y H Q) : wpAny (model X.prog X.w) X.A (inplaceOp op v u) (EP X pins σ Q) X.xe s := ho pins s σ H x y v u Q I rx ry q

/-! ### ints -/
theorem opI {f : Value → Value → Sem Value} {C : Int → Int → Prop} {g : Int → Int → Int}
    (rule : ∀ (i j : Int) (t u : Tok) (s : Shared) (Q : Value → Shared → Prop) (E : Value → Shared → Prop), C i j → Q (.int (g i j) s.toks) { s with toks := s.toks + 1 } → wpAny (model X.prog X.w) X.A (f (.int i t) (.int j u)) Q E s) :
    OpR X f (rI C fun i j => .int (g i j)) := by
  intro pins s σ H x y v u Q I rx ry h
  obtain ⟨i, j, rfl, rfl, hc, q⟩ := h
  obtain ⟨t, rfl⟩ := rx
  obtain ⟨t', rfl⟩ := ry
  exact rule i j t t' s _ _ hc ⟨.int (g i j), H, I.tok _, ⟨_, rfl⟩, q⟩
theorem opI0 {f : Value → Value → Sem Value} {g : Int → Int → Int}
    (rule : ∀ (i j : Int) (t u : Tok) (s : Shared) (Q : Value → Shared → Prop) (E : Value → Shared → Prop), Q (.int (g i j) s.toks) { s with toks := s.toks + 1 } → wpAny (model X.prog X.w) X.A (f (.int i t) (.int j u)) Q E s) :
    OpR X f (rI0 fun i j => .int (g i j)) := by
  intro pins s σ H x y v u Q I rx ry h
  obtain ⟨i, j, rfl, rfl, q⟩ := h
  obtain ⟨t, rfl⟩ := rx
  obtain ⟨t', rfl⟩ := ry
  exact rule i j t t' s _ _ ⟨.int (g i j), H, I.tok _, ⟨_, rfl⟩, q⟩
theorem opB0 {f : Value → Value → Sem Value} {g : Int → Int → Bool}
    (rule : ∀ (i j : Int) (t u : Tok) (s : Shared) (Q : Value → Shared → Prop) (E : Value → Shared → Prop), Q (.bool (g i j)) s → wpAny (model X.prog X.w) X.A (f (.int i t) (.int j u)) Q E s) :
    OpR X f (rI0 fun i j => .bl (g i j)) := by
  intro pins s σ H x y v u Q I rx ry h
  obtain ⟨i, j, rfl, rfl, q⟩ := h
  obtain ⟨t, rfl⟩ := rx
  obtain ⟨t', rfl⟩ := ry
  exact rule i j t t' s _ _ ⟨.bl (g i j), H, I, rfl, q⟩

def CDiv (i j : Int) : Prop := 0 < j ∧ j < 1073741824
def CDivN (i j : Int) : Prop := j ≠ 0 ∧ j.natAbs < 1073741824
def CPow (i j : Int) : Prop := 0 ≤ j ∧ j ≤ 1000000 ∧ i.natAbs < 2 ^ 64
def CMul (i j : Int) : Prop := (-(2 ^ 64) < i ∧ i < 2 ^ 64) ∨ (-(2 ^ 64) < j ∧ j < 2 ^ 64)
theorem CMul.ok {i j : Int} (h : CMul i j) : IntMulOk i j := by
  rcases h with ⟨h1, h2⟩ | ⟨h1, h2⟩
  · exact .of_left (intBits_le_64 h1 h2)
  · exact .of_right (intBits_le_64 h1 h2)
theorem two_pow_nn (k : Nat) : (0 : Int) ≤ 2 ^ k := by
  rw [two_pow_cast]
  exact Int.natCast_nonneg _

theorem op_add : OpR X (binaryOp .Add) (rI0 fun i j => .int (i + j)) := opI0 fun _ _ _ _ _ _ _ q => add_int q
theorem op_sub : OpR X (binaryOp .Sub) (rI0 fun i j => .int (i - j)) := opI0 fun _ _ _ _ _ _ _ q => sub_int q
theorem op_mul : OpR X (binaryOp .Mult) (rI CMul fun i j => .int (i * j)) := opI fun _ _ _ _ _ _ _ hc q => mul_int q hc.ok
/-- // by a positive divisor -/
theorem op_fdiv : OpR X (binaryOp .FloorDiv) (rI CDiv fun i j => .int (i / j)) := opI fun i j _ _ _ _ _ hc q => by
  have h1 : (0 : Int) < j := hc.1
  have h2 : j < 1073741824 := hc.2
  exact floordiv_int (by omega) (by rw [Int.fdiv_eq_ediv_of_nonneg i (by omega)]; exact q) (.inl (PyProof.noPylong_small (by omega)))
theorem op_fdivN : OpR X (binaryOp .FloorDiv) (rI CDivN fun i j => .int (i.fdiv j)) := opI fun _ _ _ _ _ _ _ hc q => floordiv_int hc.1 q (.inl (PyProof.noPylong_small hc.2))
/-- % by a positive divisor of any size -/
theorem op_mod : OpR X (binaryOp .Mod) (rI (fun _ j => 0 < j) fun i j => .int (i % j)) := opI fun i j _ _ _ _ _ hc q => by
  have h1 : (0 : Int) < j := hc
  exact mod_int' (by omega) (by rw [Int.fmod_eq_emod_of_nonneg i (by omega)]; exact q)
theorem op_modN : OpR X (binaryOp .Mod) (rI (fun _ j => j ≠ 0) fun i j => .int (i.fmod j)) := opI fun _ _ _ _ _ _ _ hc q => mod_int' hc q
theorem op_pow : OpR X (binaryOp .Pow) (rI CPow fun i j => .int (i ^ j.toNat)) := opI fun _ _ _ _ _ _ _ hc q => pow_int_small hc.1 hc.2.1 hc.2.2 q
theorem op_shl : OpR X (binaryOp .LShift) (rI CPow fun i j => .int (i * 2 ^ j.toNat)) := opI fun _ _ _ _ _ _ _ hc q => lshift_int_small hc.1 hc.2.1 hc.2.2 q
theorem op_shr : OpR X (binaryOp .RShift) (rI (fun _ j => 0 ≤ j) fun i j => .int (i / 2 ^ j.toNat)) := opI fun i j _ _ _ _ _ hc q =>
  rshift_int hc (by rw [Int.fdiv_eq_ediv_of_nonneg i (two_pow_nn _)]; exact q)
theorem op_and : OpR X (binaryOp .BitAnd) (rI0 fun i j => .int (Builtin.bitAnd i j)) := opI0 fun _ _ _ _ _ _ _ q => and_int q
theorem op_or : OpR X (binaryOp .BitOr) (rI0 fun i j => .int (Builtin.bitOr i j)) := opI0 fun _ _ _ _ _ _ _ q => or_int q
theorem op_xor : OpR X (binaryOp .BitXor) (rI0 fun i j => .int (Builtin.bitXor i j)) := opI0 fun _ _ _ _ _ _ _ q => xor_int q

theorem iop_add : OpR X (inplaceOp .Add) (rI0 fun i j => .int (i + j)) := opI0 fun _ _ _ _ _ _ _ q => iadd_int q
theorem iop_sub : OpR X (inplaceOp .Sub) (rI0 fun i j => .int (i - j)) := opI0 fun _ _ _ _ _ _ _ q => isub_int q
theorem iop_mul : OpR X (inplaceOp .Mult) (rI CMul fun i j => .int (i * j)) := opI fun _ _ _ _ _ _ _ hc q => imul_int q hc.ok
theorem iop_fdiv : OpR X (inplaceOp .FloorDiv) (rI CDiv fun i j => .int (i / j)) := opI fun i j _ _ _ _ _ hc q => by
  have h1 : (0 : Int) < j := hc.1
  have h2 : j < 1073741824 := hc.2
  exact ifloordiv_int (by omega) (by rw [Int.fdiv_eq_ediv_of_nonneg i (by omega)]; exact q) (.inl (PyProof.noPylong_small (by omega)))
theorem iop_mod : OpR X (inplaceOp .Mod) (rI (fun _ j => 0 < j) fun i j => .int (i % j)) := opI fun i j _ _ _ _ _ hc q => by
  have h1 : (0 : Int) < j := hc
  exact imod_int (by omega) (by rw [Int.fmod_eq_emod_of_nonneg i (by omega)]; exact q)
theorem iop_shl : OpR X (inplaceOp .LShift) (rI CPow fun i j => .int (i * 2 ^ j.toNat)) := opI fun _ _ _ _ _ _ _ hc q => ilshift_int_small hc.1 hc.2.1 hc.2.2 q
theorem iop_shr : OpR X (inplaceOp .RShift) (rI (fun _ j => 0 ≤ j) fun i j => .int (i / 2 ^ j.toNat)) := opI fun i j _ _ _ _ _ hc q =>
  irshift_int hc (by rw [Int.fdiv_eq_ediv_of_nonneg i (two_pow_nn _)]; exact q)
theorem iop_and : OpR X (inplaceOp .BitAnd) (rI0 fun i j => .int (Builtin.bitAnd i j)) := opI0 fun _ _ _ _ _ _ _ q => iand_int q
theorem iop_or : OpR X (inplaceOp .BitOr) (rI0 fun i j => .int (Builtin.bitOr i j)) := opI0 fun _ _ _ _ _ _ _ q => ior_int q
theorem iop_xor : OpR X (inplaceOp .BitXor) (rI0 fun i j => .int (Builtin.bitXor i j)) := opI0 fun _ _ _ _ _ _ _ q => ixor_int q

theorem unI {f : Value → Sem Value} {g : Int → Int}
    (rule : ∀ (i : Int) (t : Tok) (s : Shared) (Q : Value → Shared → Prop) (E : Value → Shared → Prop), Q (.int (g i) s.toks) { s with toks := s.toks + 1 } → wpAny (model X.prog X.w) X.A (f (.int i t)) Q E s) :
    UnR X f (rU fun i => .int (g i)) := by
  intro pins s σ H x v Q I rx h
  obtain ⟨i, rfl, q⟩ := h
  obtain ⟨t, rfl⟩ := rx
  exact rule i t s _ _ ⟨.int (g i), H, I.tok _, ⟨_, rfl⟩, q⟩
theorem un_neg : UnR X (unaryOp .USub) (rU fun i => .int (-i)) := unI fun _ _ _ _ _ q => neg_int q
theorem un_inv : UnR X (unaryOp .Invert) (rU fun i => .int (Builtin.bitNot i)) := unI fun _ _ _ _ _ q => invert_int q

/-! ### bools among ints: n += (a < b) -/
theorem op_add_ib : OpR X (binaryOp .Add) (fun x y H Q => ∃ i k, x = .int i ∧ y = .bl k ∧ Q (.int (i + b2i k)) H) := by
  intro pins s σ H x y v u Q I rx ry h
  obtain ⟨i, k, rfl, rfl, q⟩ := h
  obtain ⟨t, rfl⟩ := rx
  cases ry
  exact add_int_bool ⟨.int (i + b2i k), H, I.tok _, ⟨_, rfl⟩, q⟩
end

/-! ### comparisons -/
/-- the scalars that == tells apart as data does -/
def scal : V → V → Bool
  | .non, .non => true | .non, .int _ => true | .int _, .non => true | .non, .bl _ => true | .bl _, .non => true | .non, .str _ => true | .str _, .non => true
  | .int _, .int _ => true | .bl _, .bl _ => true | .str _, .str _ => true | .byt _, .byt _ => true
  | .int _, .str _ => true | .str _, .int _ => true | .bl _, .str _ => true | .str _, .bl _ => true
  | _, _ => false
def rEq : R2 := fun x y H Q => scal x y = true ∧ Q (.bl (decide (x = y))) H
def rNe : R2 := fun x y H Q => scal x y = true ∧ Q (.bl (!decide (x = y))) H

theorem dec_int {i j : Int} : decide (V.int i = V.int j) = (i == j) := by
  rw [Bool.eq_iff_iff]
  simp
theorem dec_bl {i j : Bool} : decide (V.bl i = V.bl j) = (i == j) := by
  rw [Bool.eq_iff_iff]
  simp
theorem dec_str {i j : Str} : decide (V.str i = V.str j) = (i == j) := by
  rw [Bool.eq_iff_iff]
  simp
theorem dec_byt {i j : Array UInt8} : decide (V.byt i = V.byt j) = (i.toList == j.toList) := by
  rw [Bool.eq_iff_iff]
  cases i
  cases j
  simp

section
variable {X : Cx} {a b c : Expr} {ta tb tc : TE} {pos : Pos}
theorem fin_bl {pins : List (Addr × Obj)} {σ : St} {H : Hp} {s : Shared} {Q : VK} {k k' : Bool} (I : Inv X pins σ H s) (q : Q (.bl k) H) (e : k = k') : EP X pins σ Q (.bool k') s := by
  subst e
  exact ⟨.bl k, H, I, rfl, q⟩
theorem op_eq : OpR X (compareOp .Eq) rEq := by
  intro pins s σ H x y v u Q I rx ry h
  obtain ⟨hs, q⟩ := h
  cases x with
  | non =>
    cases rx
    cases y with
    | non => cases ry; exact PySem.EqNone.eq_none_none (fin_bl I q (by simp))
    | bl j => cases ry; exact PySem.EqNone.eq_none_bool (fin_bl I q (by simp))
    | int j => obtain ⟨t', rfl⟩ := ry; exact PySem.EqNone.eq_none_int (fin_bl I q (by simp))
    | str j => obtain ⟨t', rfl⟩ := ry; exact PySem.EqNone.eq_none_str (fin_bl I q (by simp))
    | _ => exact absurd (show false = true from hs) Bool.false_ne_true
  | bl i =>
    cases rx
    cases y with
    | non => cases ry; exact PySem.EqNone.eq_bool_none (fin_bl I q (by simp))
    | bl j => cases ry; exact eq_bool (fin_bl I q dec_bl)
    | str j => obtain ⟨t', rfl⟩ := ry; exact PySem.EqMixed.eq_bool_str (fin_bl I q (by simp))
    | _ => exact absurd (show false = true from hs) Bool.false_ne_true
  | int i =>
    obtain ⟨t, rfl⟩ := rx
    cases y with
    | non => cases ry; exact PySem.EqNone.eq_int_none (fin_bl I q (by simp))
    | int j => obtain ⟨t', rfl⟩ := ry; exact eq_int (fin_bl I q dec_int)
    | str j => obtain ⟨t', rfl⟩ := ry; exact PySem.EqMixed.eq_int_str (fin_bl I q (by simp))
    | _ => exact absurd (show false = true from hs) Bool.false_ne_true
  | str i =>
    obtain ⟨t, rfl⟩ := rx
    cases y with
    | non => cases ry; exact PySem.EqNone.eq_str_none (fin_bl I q (by simp))
    | bl j => cases ry; exact PySem.EqMixed.eq_str_bool (fin_bl I q (by simp))
    | int j => obtain ⟨t', rfl⟩ := ry; exact PySem.EqMixed.eq_str_int (fin_bl I q (by simp))
    | str j => obtain ⟨t', rfl⟩ := ry; exact eq_str (fin_bl I q dec_str)
    | _ => exact absurd (show false = true from hs) Bool.false_ne_true
  | byt i =>
    obtain ⟨t, rfl⟩ := rx
    cases y with
    | byt j => obtain ⟨t', rfl⟩ := ry; exact PySem.W.eq_bytes (fin_bl I q dec_byt)
    | _ => exact absurd (show false = true from hs) Bool.false_ne_true
  | _ => cases y <;> exact absurd (show false = true from hs) Bool.false_ne_true
theorem op_ne : OpR X (compareOp .NotEq) rNe := by
  intro pins s σ H x y v u Q I rx ry h
  obtain ⟨hs, q⟩ := h
  cases x with
  | non =>
    cases rx
    cases y with
    | non => cases ry; exact PySem.EqNone.ne_none_none (fin_bl I q (by simp))
    | bl j => cases ry; exact PySem.EqNone.ne_none_bool (fin_bl I q (by simp))
    | int j => obtain ⟨t', rfl⟩ := ry; exact PySem.EqNone.ne_none_int (fin_bl I q (by simp))
    | str j => obtain ⟨t', rfl⟩ := ry; exact PySem.EqNone.ne_none_str (fin_bl I q (by simp))
    | _ => exact absurd (show false = true from hs) Bool.false_ne_true
  | bl i =>
    cases rx
    cases y with
    | non => cases ry; exact PySem.EqNone.ne_bool_none (fin_bl I q (by simp))
    | bl j => cases ry; exact ne_bool (fin_bl I q (congrArg not dec_bl))
    | str j => obtain ⟨t', rfl⟩ := ry; exact PySem.EqMixed.ne_bool_str (fin_bl I q (by simp))
    | _ => exact absurd (show false = true from hs) Bool.false_ne_true
  | int i =>
    obtain ⟨t, rfl⟩ := rx
    cases y with
    | non => cases ry; exact PySem.EqNone.ne_int_none (fin_bl I q (by simp))
    | int j => obtain ⟨t', rfl⟩ := ry; exact ne_int (fin_bl I q (congrArg not dec_int))
    | str j => obtain ⟨t', rfl⟩ := ry; exact PySem.EqMixed.ne_int_str (fin_bl I q (by simp))
    | _ => exact absurd (show false = true from hs) Bool.false_ne_true
  | str i =>
    obtain ⟨t, rfl⟩ := rx
    cases y with
    | non => cases ry; exact PySem.EqNone.ne_str_none (fin_bl I q (by simp))
    | bl j => cases ry; exact PySem.EqMixed.ne_str_bool (fin_bl I q (by simp))
    | int j => obtain ⟨t', rfl⟩ := ry; exact PySem.EqMixed.ne_str_int (fin_bl I q (by simp))
    | str j => obtain ⟨t', rfl⟩ := ry; exact ne_str (fin_bl I q (congrArg not dec_str))
    | _ => exact absurd (show false = true from hs) Bool.false_ne_true
  | byt i =>
    obtain ⟨t, rfl⟩ := rx
    cases y with
    | byt j => obtain ⟨t', rfl⟩ := ry; exact PySem.W.ne_bytes (fin_bl I q (congrArg not dec_byt))
    | _ => exact absurd (show false = true from hs) Bool.false_ne_true
  | _ => cases y <;> exact absurd (show false = true from hs) Bool.false_ne_true

theorem op_lt : OpR X (compareOp .Lt) (rI0 fun i j => .bl (decide (i < j))) := opB0 fun _ _ _ _ _ _ _ q => lt_int q
theorem op_le : OpR X (compareOp .LtE) (rI0 fun i j => .bl (decide (i ≤ j))) := opB0 fun _ _ _ _ _ _ _ q => le_int q
theorem op_gt : OpR X (compareOp .Gt) (rI0 fun i j => .bl (decide (j < i))) := opB0 fun _ _ _ _ _ _ _ q => gt_int q
theorem op_ge : OpR X (compareOp .GtE) (rI0 fun i j => .bl (decide (j ≤ i))) := opB0 fun _ _ _ _ _ _ _ q => ge_int q
theorem op_lt_str : OpR X (compareOp .Lt) (fun x y H Q => ∃ i j, x = .str i ∧ y = .str j ∧ Q (.bl (decide (i.cps.toList < j.cps.toList))) H) := by
  intro pins s σ H x y v u Q I rx ry h
  obtain ⟨i, j, rfl, rfl, q⟩ := h
  obtain ⟨t, rfl⟩ := rx
  obtain ⟨t', rfl⟩ := ry
  exact lt_str (fin_bl I q rfl)
/-- the one string within the other -/
theorem op_in_str : OpR X (compareOp .In) (fun x y H Q => ∃ i j, x = .str i ∧ y = .str j ∧ Q (.bl (!(Builtin.Str.occurrences j i 0 j.length 1).isEmpty)) H) := by
  intro pins s σ H x y v u Q I rx ry h
  obtain ⟨i, j, rfl, rfl, q⟩ := h
  obtain ⟨t, rfl⟩ := rx
  obtain ⟨t', rfl⟩ := ry
  exact in_str (fin_bl I q rfl)

/-- is None, is not None: the right side a value none -/
theorem op_isN : OpR X (compareOp .Is) (fun x y H Q => y = .non ∧ Q (.bl (decide (x = .non))) H) := by
  intro pins s σ H x y v u Q I rx ry h
  obtain ⟨rfl, q⟩ := h
  cases ry
  refine is_none_gen (fin_bl I q ?_)
  cases x <;> first
    | (cases rx; rfl)
    | (obtain ⟨t, rfl⟩ := rx; rfl)
theorem op_notN : OpR X (compareOp .IsNot) (fun x y H Q => y = .non ∧ Q (.bl (!decide (x = .non))) H) := by
  intro pins s σ H x y v u Q I rx ry h
  obtain ⟨rfl, q⟩ := h
  cases ry
  refine isnot_none_gen (fin_bl I q ?_)
  cases x <;> first
    | (cases rx; rfl)
    | (obtain ⟨t, rfl⟩ := rx; rfl)

theorem op_notin_str : OpR X (compareOp .NotIn) (fun x y H Q => ∃ i j, x = .str i ∧ y = .str j ∧ Q (.bl (!(!(Builtin.Str.occurrences j i 0 j.length 1).isEmpty))) H) := by
  intro pins s σ H x y v u Q I rx ry h
  obtain ⟨i, j, rfl, rfl, q⟩ := h
  obtain ⟨t, rfl⟩ := rx
  obtain ⟨t', rfl⟩ := ry
  exact notIn_str (fin_bl I q rfl)
/-- is, is not of two objects that are tracked lists or instances -/
def isObj : HO → Bool
  | .lst _ => true
  | .ins _ _ _ => true
  | _ => false
theorem obj_there {pins : List (Addr × Obj)} {s : Shared} {σ : St} {H : Hp} {a : Addr} {o : HO} (I : Inv X pins σ H s) (h : H a = some o) (p : isObj o = true) : ∃ ob, s.heap.get? a = some ob ∧ ob.cls ≠ .type "tuple" := by
  cases o with
  | lst xs =>
    obtain ⟨_, its, n, _, e⟩ : xs.length ≤ sizeLine ∧ ∃ (its : List Value) (n : Nat), Vals xs its ∧ s.heap.get? a = some { cls := .type "list", data := .seq its.toArray n } := I.hok a _ h
    exact ⟨_, e, (by show Value.type "list" ≠ .type "tuple"; decide +kernel)⟩
  | ins C dx fs =>
    have x := I.hok a _ h
    obtain ⟨_, _, _, e, _⟩ := x
    exact ⟨_, e, (by show Value.ref C ≠ .type "tuple"; exact fun z => by cases z)⟩
  | _ => exact absurd (show false = true from p) Bool.false_ne_true
theorem op_is_ref : OpR X (compareOp .Is) (fun x y H Q => ∃ a b oa ob, x = .ref a ∧ y = .ref b ∧ H a = some oa ∧ isObj oa = true ∧ H b = some ob ∧ isObj ob = true ∧ Q (.bl (decide (a = b))) H) := by
  intro pins s σ H x y v u Q I rx ry h
  obtain ⟨a, b, oa, ob, rfl, rfl, ha, pa, hb, pb, q⟩ := h
  cases rx
  cases ry
  obtain ⟨o1, e1, n1⟩ := obj_there I ha pa
  obtain ⟨o2, e2, _⟩ := obj_there I hb pb
  by_cases z : a = b
  · subst z
    exact wpAny_is_ref_self (fin_bl I q (by simp))
  · exact wpAny_is_ref_other z e1 e2 n1 (fin_bl I q (by simp [z]))
theorem op_isnot_ref : OpR X (compareOp .IsNot) (fun x y H Q => ∃ a b oa ob, x = .ref a ∧ y = .ref b ∧ H a = some oa ∧ isObj oa = true ∧ H b = some ob ∧ isObj ob = true ∧ Q (.bl (!decide (a = b))) H) := by
  intro pins s σ H x y v u Q I rx ry h
  obtain ⟨a, b, oa, ob, rfl, rfl, ha, pa, hb, pb, q⟩ := h
  cases rx
  cases ry
  obtain ⟨o1, e1, n1⟩ := obj_there I ha pa
  obtain ⟨o2, e2, _⟩ := obj_there I hb pb
  by_cases z : a = b
  · subst z
    exact wpAny_isNot_ref_self (fin_bl I q (by simp))
  · exact wpAny_isNot_ref_other z e1 e2 n1 (fin_bl I q (by simp [z]))

/-- two rules for one operation: by cases -/
theorem OpR.or {f : Value → Value → Sem Value} {r r' : R2} (h : OpR X f r) (h' : OpR X f r') : OpR X f (fun x y H Q => r x y H Q ∨ r' x y H Q) := by
  intro pins s σ H x y v u Q I rx ry q
  rcases q with q | q
  · exact h pins s σ H x y v u Q I rx ry q
  · exact h' pins s σ H x y v u Q I rx ry q

theorem nomark (b : Expr) {op : CmpOp} (h : op ≠ .In := by decide) (h2 : op ≠ .NotIn := by decide) : behindInMarks op b = false := by
  have e1 : (op == CmpOp.In) = false := by cases op <;> first | rfl | exact absurd rfl h
  have e2 : (op == CmpOp.NotIn) = false := by cases op <;> first | rfl | exact absurd rfl h2
  cases b <;> simp [behindInMarks, e1, e2]
/-- a comparison as a value; hm: nomark b, or (for in, not in) by with_unfolding_all rfl -/
theorem pe_cmpR {op : CmpOp} {r : R2} (ho : OpR X (compareOp op) r) (ha : PE X a ta) (hb : PE X b tb) (hm : behindInMarks op b = false) : PE X (.Compare a [op] [b] pos) (tOp r ta tb) := by
  intro pins s σ H Q I h
  exact wpAny_Compare1 (binT ha hb I h fun v u s2 x y H2 I2 rx ry q => ho pins s2 σ H2 x y v u Q I2 rx ry q) hm
/-- a reading of a value as a test -/
def tTest (t : TE) : TT := fun σ H Q => t σ H fun x H' => ∃ k, x = .bl k ∧ Q k H'
theorem pt_cmpR {op : CmpOp} {r : R2} (ho : OpR X (compareOp op) r) (ha : PE X a ta) (hb : PE X b tb) (hm : behindInMarks op b = false) : PT X (.Compare a [op] [b] pos) (tTest (tOp r ta tb)) := by
  intro pins s σ H Q I h
  refine wpAny_isTrue_Compare1 (thn (ha pins s σ H _ I h) fun v s1 ⟨x, H1, I1, r1, q1⟩ => thn (hb pins s1 σ H1 _ I1 q1) fun u s2 ⟨y, H2, I2, r2, q2⟩ =>
    thn (ho pins s2 σ H2 x y v u _ I2 r1 r2 q2) fun c s3 ⟨z, H3, I3, r3, k, e, q3⟩ => ?_) hm
  subst e
  cases r3
  exact wpAny_truthy_bool ⟨H3, I3, q3⟩
/-- a op1 b op2 c -/
def tChain (r r' : R2) (ta tb tc : TE) : TE := fun σ H Q => ta σ H fun x H1 => tb σ H1 fun y H2 => r x y H2 fun z H3 => ∃ k, z = .bl k ∧
  (if k = true then tc σ H3 fun w' H4 => r' y w' H4 Q else Q (.bl false) H3)
theorem pe_chain {op op' : CmpOp} {r r' : R2} (ho : OpR X (compareOp op) r) (ho' : OpR X (compareOp op') r') (ha : PE X a ta) (hb : PE X b tb) (hc : PE X c tc)
    (hm : lastMarks [op, op'] [b, c] = false := by with_unfolding_all rfl) : PE X (.Compare a [op, op'] [b, c] pos) (tChain r r' ta tb tc) := by
  intro pins s σ H Q I h
  refine Compare_chain (thn (ha pins s σ H _ I h) fun v s1 ⟨x, H1, I1, r1, q1⟩ => chain_link (thn (hb pins s1 σ H1 _ I1 q1) fun u s2 ⟨y, H2, I2, r2, q2⟩ =>
    thn (ho pins s2 σ H2 x y v u _ I2 r1 r2 q2) fun d s3 ⟨z, H3, I3, r3, k, e, q3⟩ => ?_)) hm
  subst e
  cases r3
  refine wpAny_truthy_bool ?_
  cases k with
  | false => exact ite_ff ⟨.bl false, H3, I3, rfl, q3⟩
  | true => exact ite_tt (chain_last (thn (hc pins s3 σ H3 _ I3 q3) fun w' s4 ⟨z', H4, I4, r4, q4⟩ => ho' pins s4 σ H4 y z' u w' Q I4 r2 r4 q4))
theorem pt_chain {op op' : CmpOp} {r r' : R2} (ho : OpR X (compareOp op) r) (ho' : OpR X (compareOp op') r') (ha : PE X a ta) (hb : PE X b tb) (hc : PE X c tc)
    (hm : lastMarks [op, op'] [b, c] = false := by with_unfolding_all rfl) : PT X (.Compare a [op, op'] [b, c] pos) (tTest (tChain r r' ta tb tc)) := by
  intro pins s σ H Q I h
  refine isTrue_chain (thn (ha pins s σ H _ I h) fun v s1 ⟨x, H1, I1, r1, q1⟩ => test_link (thn (hb pins s1 σ H1 _ I1 q1) fun u s2 ⟨y, H2, I2, r2, q2⟩ =>
    thn (ho pins s2 σ H2 x y v u _ I2 r1 r2 q2) fun d s3 ⟨z, H3, I3, r3, k, e, q3⟩ => ?_)) hm
  subst e
  cases r3
  refine wpAny_truthy_bool ?_
  cases k with
  | false =>
    obtain ⟨k', e', q'⟩ := q3
    cases e'
    exact ite_ff ⟨H3, I3, q'⟩
  | true =>
    refine ite_tt (test_last (thn (hc pins s3 σ H3 _ I3 q3) fun w' s4 ⟨z', H4, I4, r4, q4⟩ => thn (ho' pins s4 σ H4 y z' u w' _ I4 r2 r4 q4) fun d' s5 ⟨z2, H5, I5, r5, k2, e2, q5⟩ => ?_))
    subst e2
    cases r5
    exact wpAny_truthy_bool ⟨H5, I5, q5⟩

/-! ### truth -/
/-- a value's truth by the abstract heap -/
def TruV (K : PySem.W.Frag) (x : V) (H : Hp) (k : Bool) : Prop :=
  match x with
  | .non => k = false
  | .bl b => k = b
  | .int i => k = (i != 0)
  | .str y => y.length ≤ sizeLine ∧ k = ((y.length : Int) != 0)
  | .byt y => y.size ≤ sizeLine ∧ k = ((y.size : Int) != 0)
  | .ref p => (∃ xs, SqL K H p xs ∧ k = !xs.isEmpty) ∨ (∃ xs, SqT K H p xs ∧ k = !xs.isEmpty) ∨ ∃ kvs, H p = some (.dK kvs) ∧ k = !kvs.isEmpty
  | _ => False
theorem isEmpty_kv {κ : Type} {kvs : List (κ × V)} {vs : List (κ × Value)} (r : KV kvs vs) : (!vs.isEmpty) = !kvs.isEmpty := by
  cases r <;> rfl
theorem isEmpty_of {xs : List V} {its : List Value} (r : Vals xs its) : (!its.toArray.isEmpty) = !xs.isEmpty := by
  cases r <;> simp
theorem line63 : (sizeLine : Nat) < 2 ^ 63 := by rw [sizeLine_eq]; decide
theorem tru_ok : TruR X (fun x H Q => ∃ k, TruV X.K x H k ∧ Q k H) := by
  intro pins s σ H x v Q I rx h
  obtain ⟨k, e, q⟩ := h
  have hl := line63
  have hs : sizeLine = 16777216 := sizeLine_eq
  cases x with
  | non =>
    cases rx
    have e' : k = false := e
    subst e'
    exact truthy_none ⟨H, I, q⟩
  | bl b =>
    cases rx
    have e' : k = b := e
    subst e'
    exact wpAny_truthy_bool ⟨H, I, q⟩
  | int i =>
    obtain ⟨t, rfl⟩ := rx
    have e' : k = (i != 0) := e
    subst e'
    exact PySem.P.truthy_int ⟨H, I, q⟩
  | str y =>
    obtain ⟨t, rfl⟩ := rx
    obtain ⟨hy, e'⟩ : y.length ≤ sizeLine ∧ k = ((y.length : Int) != 0) := e
    subst e'
    exact PySem.P.truthy_str (by omega) ⟨H, I.tok _, q⟩
  | byt y =>
    obtain ⟨t, rfl⟩ := rx
    obtain ⟨hy, e'⟩ : y.size ≤ sizeLine ∧ k = ((y.size : Int) != 0) := e
    subst e'
    exact PySem.W.truthy_bytes (by omega) ⟨H, I.tok _, q⟩
  | ref p =>
    cases rx
    have e' : (∃ xs, SqL X.K H p xs ∧ k = !xs.isEmpty) ∨ (∃ xs, SqT X.K H p xs ∧ k = !xs.isEmpty) ∨ ∃ kvs, H p = some (.dK kvs) ∧ k = !kvs.isEmpty := e
    rcases e' with ⟨xs, hx, e'⟩ | ⟨xs, hx, e'⟩ | ⟨kvs, hx, e'⟩
    · subst e'
      obtain ⟨its, r, pl, hz⟩ := I.list hx
      have hlen := r.length
      exact wpAny_truthy_list pl.isList (by simp only [List.size_toArray]; omega) ⟨H, I.tok _, by rw [isEmpty_of r]; exact q⟩
    · subst e'
      obtain ⟨its, r, pl, hz⟩ := I.tuple hx
      have hlen := r.length
      exact truthy_tuple pl (by simp only [List.size_toArray]; omega) ⟨H, I.tok _, by rw [isEmpty_of r]; exact q⟩
    · subst e'
      obtain ⟨hz, hS, vs, r, m⟩ : kvs.length ≤ sizeLine ∧ (p == sysModules) = false ∧ ∃ vs, KV kvs vs ∧ s.heap.DictOf (mixKind X.prog X.w) p vs := I.hok p _ hx
      have hlen : kvs.length = vs.length := Paired.length r
      exact wpAny_truthy_dict hS m (by omega) ⟨H, I.tok _, by rw [isEmpty_kv r]; exact q⟩
  | _ => exact (show False from e).elim
/-- any expression whose test is its value's truth (a name, a call, a subscript, a field ..: he by fun _ => rfl) -/
theorem pt_truth (ha : PE X a ta) (he : ∀ whole, isTrue a X.env whole = (do let v ← whole; standAt a.pos; holding [v] (truthy v))) :
    PT X a (fun σ H Q => ta σ H fun x H' => ∃ k, TruV X.K x H' k ∧ Q k H') := by
  intro pins s σ H Q I h
  exact isTrue_plain (thn (ha pins s σ H _ I h) fun v s1 ⟨x, H1, I1, r1, q1⟩ => tru_ok pins s1 σ H1 x v Q I1 r1 q1) (he _)

/-! ### strs and bytes -/
theorem pe_byt {x : List UInt8} {k : Nat} : PE X (.Constant (.bytes x) k pos) (fun _ H Q => Q (.byt x.toArray) H) := fun _ _ _ H _ I h => PySem.W.Constant_bytes ⟨.byt x.toArray, H, I.tok _, ⟨_, rfl⟩, h⟩
theorem op_add_str : OpR X (binaryOp .Add) (fun x y H Q => ∃ i j, x = .str i ∧ y = .str j ∧ i.length + j.length ≤ sizeLine ∧ Q (.str (i ++ j)) H) := by
  intro pins s σ H x y v u Q I rx ry h
  obtain ⟨i, j, rfl, rfl, hz, q⟩ := h
  obtain ⟨t, rfl⟩ := rx
  obtain ⟨t', rfl⟩ := ry
  exact add_str (fun t' tk => ⟨.str (i ++ j), H, I.tok _, ⟨_, rfl⟩, q⟩) hz
theorem iop_add_str : OpR X (inplaceOp .Add) (fun x y H Q => ∃ i j, x = .str i ∧ y = .str j ∧ i.length + j.length ≤ sizeLine ∧ Q (.str (i ++ j)) H) := by
  intro pins s σ H x y v u Q I rx ry h
  obtain ⟨i, j, rfl, rfl, hz, q⟩ := h
  obtain ⟨t, rfl⟩ := rx
  obtain ⟨t', rfl⟩ := ry
  exact iadd_str (fun t' tk => ⟨.str (i ++ j), H, I.tok _, ⟨_, rfl⟩, q⟩) hz
theorem op_add_byt : OpR X (binaryOp .Add) (fun x y H Q => ∃ i j, x = .byt i ∧ y = .byt j ∧ i.size + j.size ≤ 16777216 ∧ Q (.byt (i ++ j)) H) := by
  intro pins s σ H x y v u Q I rx ry h
  obtain ⟨i, j, rfl, rfl, hz, q⟩ := h
  obtain ⟨t, rfl⟩ := rx
  obtain ⟨t', rfl⟩ := ry
  exact PySem.W.KBy.add_bytes hz (fun t' tk => ⟨.byt (i ++ j), H, I.tok _, ⟨_, rfl⟩, q⟩)

def PlainIxT (b : Expr) : Prop := ∀ o i, subscripted b false o i = operate [o, i] (getItem o i)
/-- s[i], 0 ≤ i < len -/
theorem pe_item_str (ha : PE X a ta) (hb : PE X b tb) (hs : PlainIxT b) :
    PE X (.Subscript a b pos) (tOp (fun x y H Q => ∃ z i c, x = .str z ∧ y = .int i ∧ 0 ≤ i ∧ i < 2 ^ 63 ∧ i < z.length ∧ z.cps[i.toNat]? = some c ∧ Q (.str ⟨#[c]⟩) H) ta tb) := by
  intro pins s σ H Q I h
  refine Subscript_ (binT ha hb I h fun v u s2 x y H2 I2 rx ry q => ?_)
  obtain ⟨z, i, c, rfl, rfl, h0, h63, h1, hc, q⟩ := q
  obtain ⟨t, rfl⟩ := rx
  obtain ⟨t', rfl⟩ := ry
  have e : seqIndex? i z.length = some i.toNat := PySem.StrLaws.seqIndex_nonneg h0 h1
  exact tail_any (typeIs_str s2 z t) slot_str_getitem.lookup (getItem_str (c := c) (by
    have e1 : decide (i < -(2 ^ 63 : Int)) = false := decide_eq_false (by omega)
    have e2 : decide (i ≥ 2 ^ 63) = false := decide_eq_false (by omega)
    rw [e1, e2] <;> rfl) (by rw [e]; exact hc) ⟨.str ⟨#[c]⟩, H2, I2.tok _, ⟨_, rfl⟩, q⟩) (hs _ _)
/-- b[i], 0 ≤ i < len -/
theorem pe_item_byt (ha : PE X a ta) (hb : PE X b tb) (hs : PlainIxT b) :
    PE X (.Subscript a b pos) (tOp (fun x y H Q => ∃ (z : List UInt8) (i : Int), x = .byt z.toArray ∧ y = .int i ∧ z.length ≤ sizeLine ∧ 0 ≤ i ∧ i < z.length ∧ Q (.int ((z.getD i.toNat 0).toNat : Nat)) H) ta tb) := by
  intro pins s σ H Q I h
  refine Subscript_ (binT ha hb I h fun v u s2 x y H2 I2 rx ry q => ?_)
  obtain ⟨z, i, rfl, rfl, hz, h0, h1, q⟩ := q
  obtain ⟨t, rfl⟩ := rx
  obtain ⟨t', rfl⟩ := ry
  have hl : sizeLine = 16777216 := sizeLine_eq
  exact tail_any (PySem.W.typeIs_bytes s2 z.toArray t) PySem.W.FB.slot_bytes_getitem.lookup (PySem.W.getItem_bytes (by omega) h0 h1 ⟨.int ((z.getD i.toNat 0).toNat : Nat), H2, I2.tok _, ⟨_, rfl⟩, q⟩) (hs _ _)

/-! ### scalar builtins, by CallR -/
theorem vals1 {x : V} {us : List Value} (r : Vals [x] us) : ∃ u, us = [u] ∧ RelV x u := by
  cases r with
  | cons r1 r2 => cases r2; exact ⟨_, rfl, r1⟩
theorem vals2 {x y : V} {us : List Value} (r : Vals [x, y] us) : ∃ u w', us = [u, w'] ∧ RelV x u ∧ RelV y w' := by
  cases r with
  | cons r1 r2 =>
    cases r2 with
    | cons r3 r4 => cases r4; exact ⟨_, _, rfl, r1, r3⟩
theorem call_abs : CallR X (.builtin "abs") (fun xs H Q => ∃ i, xs = [.int i] ∧ Q (.int (if i < 0 then -i else i)) H) := by
  intro pins s σ H xs us Q I r h
  obtain ⟨i, rfl, q⟩ := h
  obtain ⟨u, rfl, t, rfl⟩ := vals1 r
  exact call_abs_int fun u tk => ⟨.int (if i < 0 then -i else i), H, I.tok _, ⟨_, rfl⟩, q⟩
theorem call_max2 (hc : X.calm = true) : CallR X (.builtin "max") (fun xs H Q => ∃ i j, xs = [.int i, .int j] ∧ Q (.int (if j > i then j else i)) H) := by
  intro pins s σ H xs us Q I r h
  obtain ⟨i, j, rfl, q⟩ := h
  obtain ⟨u, w', rfl, ⟨t, rfl⟩, ⟨t', rfl⟩⟩ := vals2 r
  refine max_two_ints (I.ok.hd hc) fun h' tk k => ⟨_, H, I.kept k, ?_, q⟩
  by_cases hj : j > i
  · rw [if_pos hj, if_pos hj]; exact ⟨_, rfl⟩
  · rw [if_neg hj, if_neg hj]; exact ⟨_, rfl⟩
theorem call_min2 (hc : X.calm = true) : CallR X (.builtin "min") (fun xs H Q => ∃ i j, xs = [.int i, .int j] ∧ Q (.int (if j < i then j else i)) H) := by
  intro pins s σ H xs us Q I r h
  obtain ⟨i, j, rfl, q⟩ := h
  obtain ⟨u, w', rfl, ⟨t, rfl⟩, ⟨t', rfl⟩⟩ := vals2 r
  refine min_two_ints (I.ok.hd hc) fun h' tk k => ⟨_, H, I.kept k, ?_, q⟩
  by_cases hj : j < i
  · rw [if_pos hj, if_pos hj]; exact ⟨_, rfl⟩
  · rw [if_neg hj, if_neg hj]; exact ⟨_, rfl⟩
theorem call_int1 : CallR X (.type "int") (fun xs H Q => (∃ i, xs = [.int i] ∧ Q (.int i) H) ∨ ∃ k, xs = [.bl k] ∧ Q (.int (if k then 1 else 0)) H) := by
  intro pins s σ H xs us Q I r h
  rcases h with ⟨i, rfl, q⟩ | ⟨k, rfl, q⟩
  · obtain ⟨u, rfl, t, rfl⟩ := vals1 r
    exact call_int_int ⟨.int i, H, I, ⟨_, rfl⟩, q⟩
  · obtain ⟨u, rfl, r1⟩ := vals1 r
    cases r1
    exact call_int_bool ⟨.int (if k then 1 else 0), H, I.tok _, ⟨_, rfl⟩, q⟩
theorem call_bool1 : CallR X (.type "bool") (fun xs H Q => (∃ i, xs = [.int i] ∧ Q (.bl (i != 0)) H) ∨ ∃ k, xs = [.bl k] ∧ Q (.bl k) H) := by
  intro pins s σ H xs us Q I r h
  rcases h with ⟨i, rfl, q⟩ | ⟨k, rfl, q⟩
  · obtain ⟨u, rfl, t, rfl⟩ := vals1 r
    exact call_bool_int ⟨.bl (i != 0), H, I, rfl, q⟩
  · obtain ⟨u, rfl, r1⟩ := vals1 r
    cases r1
    exact call_bool_bool ⟨.bl k, H, I, rfl, q⟩
theorem call_str_int : CallR X (.type "str") (fun xs H Q => ∃ i, xs = [.int i] ∧ i.natAbs.log2 < 1920 ∧ Q (.str (toString i)) H) := by
  intro pins s σ H xs us Q I r h
  obtain ⟨i, rfl, hz, q⟩ := h
  obtain ⟨u, rfl, t, rfl⟩ := vals1 r
  exact PySem.P.str_of_int hz ⟨.str _, H, I.tok _, ⟨_, rfl⟩, q⟩
theorem call_ord : CallR X (.builtin "ord") (fun xs H Q => ∃ x, xs = [.str x] ∧ x.length = 1 ∧ Q (.int (x.cps.getD 0 0 : Nat)) H) := by
  intro pins s σ H xs us Q I r h
  obtain ⟨x, rfl, hz, q⟩ := h
  obtain ⟨u, rfl, t, rfl⟩ := vals1 r
  exact ord_of_one hz ⟨.int _, H, I.tok _, ⟨_, rfl⟩, q⟩
theorem call_chr : CallR X (.builtin "chr") (fun xs H Q => ∃ i, xs = [.int i] ∧ 0 ≤ i ∧ i ≤ 1114111 ∧ Q (.str ⟨#[i.toNat]⟩) H) := by
  intro pins s σ H xs us Q I r h
  obtain ⟨i, rfl, h0, h1, q⟩ := h
  obtain ⟨u, rfl, t, rfl⟩ := vals1 r
  exact chr_of_range h0 h1 ⟨.str _, H, I.tok _, ⟨_, rfl⟩, q⟩
/-- len of a str, a bytes, a list, a tuple -/
def LenV (K : PySem.W.Frag) (x : V) (H : Hp) (n : Nat) : Prop :=
  match x with
  | .str y => y.length ≤ sizeLine ∧ n = y.length
  | .byt y => y.size ≤ sizeLine ∧ n = y.size
  | .ref p => (∃ xs, SqL K H p xs ∧ n = xs.length) ∨ ∃ xs, SqT K H p xs ∧ n = xs.length
  | _ => False
theorem call_len : CallR X (.builtin "len") (fun xs H Q => ∃ x n, xs = [x] ∧ LenV X.K x H n ∧ Q (.int n) H) := by
  intro pins s σ H xs us Q I r h
  obtain ⟨x, n, rfl, e, q⟩ := h
  obtain ⟨u, rfl, rx⟩ := vals1 r
  have hl := line63
  have hs : sizeLine = 16777216 := sizeLine_eq
  cases x with
  | str y =>
    obtain ⟨t, rfl⟩ := rx
    obtain ⟨hy, e'⟩ : y.length ≤ sizeLine ∧ n = y.length := e
    subst e'
    exact len_str (by omega) ⟨.int _, H, I.tok _, ⟨_, rfl⟩, q⟩
  | byt y =>
    obtain ⟨t, rfl⟩ := rx
    obtain ⟨hy, e'⟩ : y.size ≤ sizeLine ∧ n = y.size := e
    subst e'
    exact PySem.W.len_bytes (by omega) ⟨.int _, H, I.tok _, ⟨_, rfl⟩, q⟩
  | ref p =>
    cases rx
    have e' : (∃ xs, SqL X.K H p xs ∧ n = xs.length) ∨ ∃ xs, SqT X.K H p xs ∧ n = xs.length := e
    rcases e' with ⟨xs, hx, e'⟩ | ⟨xs, hx, e'⟩
    · subst e'
      obtain ⟨its, r', pl, hz⟩ := I.list hx
      have hlen := r'.length
      exact Calls.call_len_list pl.isList (by simp only [List.size_toArray]; omega) ⟨.int xs.length, H, I.tok _, ⟨_, by simp only [List.size_toArray]; rw [hlen]⟩, q⟩
    · subst e'
      obtain ⟨its, r', pl, hz⟩ := I.tuple hx
      have hlen := r'.length
      exact len_tuple pl (by simp only [List.size_toArray]; omega) ⟨.int xs.length, H, I.tok _, ⟨_, by simp only [List.size_toArray]; rw [hlen]⟩, q⟩
  | _ => exact (show False from e).elim
/-- divmod: a new tuple -/
theorem call_divmod : CallR X (.builtin "divmod") (fun xs H Q => ∃ i j, xs = [.int i, .int j] ∧ CDiv i j ∧ ∀ p, H p = none → Q (.ref p) (upd H p (.tup [.int (i / j), .int (i % j)]))) := by
  intro pins s σ H xs us Q I r h
  obtain ⟨i, j, rfl, ⟨h1, h2⟩, q⟩ := h
  obtain ⟨u, w', rfl, ⟨t, rfl⟩, ⟨t', rfl⟩⟩ := vals2 r
  refine divmod_int (by omega) ?_ (.inl (PyProof.noPylong_small (by omega)))
  rw [Int.fdiv_eq_ediv_of_nonneg i (by omega), Int.fmod_eq_emod_of_nonneg i (by omega)]
  have hn : H s.heap.objs.size = none := I.hok.fresh (Nat.le_refl _)
  refine ⟨.ref s.heap.objs.size, _, ?_, rfl, q _ hn⟩
  refine I.laid (fun b o e => Heap.get?_push_of_some _ e) (Nat.le_refl _) ⟨by simp only [List.length_cons, List.length_nil]; rw [sizeLine_eq]; decide, [.int (i / j) s.toks, .int (i % j) (s.toks + 1)], .cons ⟨_, rfl⟩ (.cons ⟨_, rfl⟩ .nil), ?_⟩
  exact ⟨_, Heap.get?_push_size s.heap rfl, rfl, 0, rfl⟩
end
end L2

namespace L2
open PySem PySem.Spec PyProof.Rows

/-! ### an instance, its attributes a map -/
structure ObjM (h : Heap) (x dx C : Addr) (mA : Str → Option Value) : Prop where
  obj : h.get? x = some (PySem.W.instObj C dx)
  ns : h.Ns1 dx mA
  ne : dx ≠ x

theorem lookIn_ns {h : Heap} {dx : Addr} {mA : Str → Option Value} (n : h.Ns1 dx mA) : ∃ od, h.get? dx = some od ∧ ∀ name, PySem.W.lookIn name od = some (mA name) := by
  obtain ⟨o, es, ep, ho, hd, hk, _, hm⟩ := n
  refine ⟨o, ho, fun name => ?_⟩
  have e := hm name
  unfold nsFind findBy at e
  rw [← Array.find?_toList] at e
  unfold PySem.W.lookIn
  rw [hd]
  dsimp only
  split
  · rename_i y q
    rw [q] at e
    exact congrArg some e
  · rename_i q
    rw [q] at e
    have a : es.toList.any (·.refKey) = false := by
      rw [List.any_eq_false]
      intro y hy
      obtain ⟨z, t, hkey⟩ := hk y (Array.mem_toList_iff.mp hy)
      simp [DictEntry.refKey, hkey]
    have a' : ¬ es.toList.any (·.refKey) = true := by rw [a]; exact Bool.false_ne_true
    rw [if_neg a']
    exact congrArg some e

theorem ObjM.look {h : Heap} {x dx C : Addr} {mA : Str → Option Value} (I : ObjM h x dx C mA) : ∃ od, PySem.W.InstAt h x (PySem.W.instObj C dx) C (some od) ∧ ∀ name, PySem.W.lookIn name od = some (mA name) :=
  let ⟨od, ho, hl⟩ := lookIn_ns I.ns
  ⟨od, ⟨I.obj, rfl, rfl, ho⟩, hl⟩

section
variable {prog : Program} {w : World} {A : Around} {E : Value → Shared → Prop} {s : Shared} {K : PySem.W.Frag} {x dx C f : Addr} {mA : Str → Option Value} {name : Str} {v : Value}

theorem get_map {expr : Bool} {Q : Value → Shared → Prop} (X : K.In s.heap) (I : ObjM s.heap x dx C mA) (hg : PySem.W.plainGet K C name = true) (hh : PySem.W.hasDictIn K C = true)
    (ha : PySem.W.findIn K (.ref C) name = some none) (hv : mA name = some v) (hv' : PySem.W.handedIn v = true) (h : Q v { s with toks := s.toks + 1 }) :
    wpAny (model prog w) A (getAttr (.ref x) name expr) Q E s := by
  obtain ⟨od, J, hl⟩ := I.look
  exact PySem.W.get_value X J (PySem.W.plainGet_of hg).1 (PySem.W.findObj_own hh ha rfl (by rw [hl, hv])) hv' h

theorem get_const {expr : Bool} {a : Value} {Q : Value → Shared → Prop} (X : K.In s.heap) (I : ObjM s.heap x dx C mA) (hg : PySem.W.plainGet K C name = true) (hh : PySem.W.hasDictIn K C = true)
    (ha : PySem.W.findIn K (.ref C) name = some (some a)) (hn : PySem.W.specialIn K a "__get__" = some none) (hc : PySem.W.copiedNames.contains name = false) (hv : mA name = none) (hv' : PySem.W.handedIn a = true)
    (h : Q a { s with toks := s.toks + 1 }) : wpAny (model prog w) A (getAttr (.ref x) name expr) Q E s := by
  obtain ⟨od, J, hl⟩ := I.look
  exact PySem.W.get_value X J (PySem.W.plainGet_of hg).1 (PySem.W.findObj_cls hh ha hn hv' hc (by rw [hl, hv])) hv' h

theorem get_meth {pl : Sem Bool} {Q : Value × List Value → Shared → Prop} (X : K.In s.heap) (I : ObjM s.heap x dx C mA) (hg : PySem.W.plainGet K C name = true)
    (hf : PySem.W.findIn K (.ref C) name = some (some (.ref f))) (ht : PySem.W.isFn K (.ref f) = true) (hv : mA name = none) (h : Q (.ref f, [.ref x]) s) :
    wpAny (model prog w) A (getMethod (.ref x) name pl) Q E s := by
  obtain ⟨od, J, hl⟩ := I.look
  exact PySem.W.method_fn X J (PySem.W.plainGet_of hg).1 (PySem.W.plainGet_of hg).2 hf (beq_iff_eq.mp ht) (by show (PySem.W.lookIn name od).map (·.isSome) = some false; rw [hl, hv]; rfl) h

theorem set_map {ns : List Str} {Q : Unit → Shared → Prop} (X : K.In s.heap) (I : ObjM s.heap x dx C mA)
    (hs : PySem.W.findIn K (.ref C) "__setattr__" = some (some (.builtin "object.__setattr__"))) (hp : PySem.W.plainOver K C = true) (ht : PySem.W.takerIn K C name = some none) (hh : PySem.W.hasDictIn K C = true)
    (hw : PySem.Within mA ns) (hsz : ns.length ≤ sizeLine)
    (h : ∀ h', ObjM h' x dx C (fun y => if y = name then some v else mA y) → Heap.SameBut dx s.heap h' → Q () { s with heap := h', toks := s.toks + 2 }) :
    wpAny (model prog w) A (setAttr (.ref x) name v) Q E s := by
  obtain ⟨od, J, hl⟩ := I.look
  refine PySem.W.set_plain X J hs (PySem.W.osa_open (s := { s with toks := s.toks + 1 }) (r := none) X J hp ht fun b => ?_)
  obtain ⟨cd, hc, hd'⟩ := PySem.W.any_some hh
  have hx : s.heap.get? x = some ⟨.ref C, some dx, .plain, #[]⟩ := I.obj
  refine wpAny_bind (wpAny_pure (wpAny_bind (wpAny_bind (wpAny_loadPart hx (wpAny_bind (PySem.W.Looks.here (s := { s with toks := s.toks + 1 }) (PySem.W.looks_clsIn X hc) ?_))))))
  rw [hd']
  refine wpAny_pure (a := some dx) (wpAny_bind (wpAny_pure (wpAny_bind ?_)))
  refine wpAny_nsSet1 (s := { s with toks := s.toks + 1 }) I.ns fun h' hn2 hs2 => ?_
  obtain ⟨oD, esD, epD, hoD, hdD, hcD⟩ := hn2.count (PySem.Within.cons name v hw)
  refine wpAny_bind (wpAny_lookBehind hoD (by rw [hdD]; exact pastItsLine_dict (Nat.le_trans hcD (by rw [List.length_cons]; omega))) ?_)
  exact wpAny_pure (h _ ⟨(hs2.2 _ (Ne.symm I.ne)).trans I.obj, hn2, I.ne⟩ hs2)

/-- C(..): the dict at the heap's end, the instance behind it; then its __init__ -/
theorem make_map {R : Result → Shared → Prop} {vs : List Value} {kw : List (Str × Value)} (X : K.In s.heap) (hm : PySem.W.makesIn K C = true)
    (hi : PySem.W.findIn K (.ref C) "__init__" = some (some (.ref f))) (hf : PySem.W.typeIn K (.ref f) = some (.type "function"))
    (h : codeAny (model prog w) (A.under (.builtin "type.__call__" ⟨.ref C :: vs, kw⟩)) (.call (.ref f) ⟨.ref (s.heap.objs.size + 1) :: vs, kw⟩) (PySem.W.InitBack (s.heap.objs.size + 1) R)
      { s with heap := (s.heap.push PySem.W.emptyDict).push (PySem.W.instObj C s.heap.objs.size) }) :
    codeAny (model prog w) A (.call (.ref C) ⟨vs, kw⟩) R s := by
  obtain ⟨hh, g, d, t, os⟩ := s
  exact PySem.W.make_core (PySem.W.makes_of X hm) (PySem.W.looks_findIn X hi) (fun self => PySem.W.bind_fn X self hf) (.inl rfl) h
/-- C() where there is no __init__ but object's -/
theorem make_map0 {R : Result → Shared → Prop} (X : K.In s.heap) (hm : PySem.W.makesIn K C = true)
    (hi : PySem.W.findIn K (.ref C) "__init__" = some (some (.builtin "object.__init__")))
    (hb : ∀ self, PySem.W.Looks (model prog w) s.heap (bindSpecial (.builtin "object.__init__") self) (.builtin "object.__init__", [self]))
    (h : codeAny (model prog w) (A.under (.builtin "type.__call__" ⟨[.ref C], []⟩)) (.call (.builtin "object.__init__") ⟨[.ref (s.heap.objs.size + 1)], []⟩) (PySem.W.InitBack (s.heap.objs.size + 1) R)
      { s with heap := (s.heap.push PySem.W.emptyDict).push (PySem.W.instObj C s.heap.objs.size) }) :
    codeAny (model prog w) A (.call (.ref C) ⟨[], []⟩) R s := by
  obtain ⟨hh, g, d, t, os⟩ := s
  exact PySem.W.make_core (PySem.W.makes_of X hm) (PySem.W.looks_findIn X hi) hb (.inr ⟨rfl, rfl⟩) h
end

/-! ### the attributes as a list of pairs -/
def putF (f : Str) (v : V) : List (Str × V) → List (Str × V)
  | [] => [(f, v)]
  | (g, x) :: r => if g = f then (g, v) :: r else (g, x) :: putF f v r
theorem lookup_putF (f g : Str) (v : V) : ∀ fs : List (Str × V), (putF f v fs).lookup g = if g = f then some v else fs.lookup g
  | [] => by
    show List.lookup g [(f, v)] = _
    by_cases h : g = f
    · have hb : (g == f) = true := beq_iff_eq.mpr h
      simp only [List.lookup, hb, if_pos h]
    · have hb : (g == f) = false := beq_eq_false_iff_ne.mpr h
      simp only [List.lookup, hb, if_neg h]
  | (k, x) :: r => by
    have ih := lookup_putF f g v r
    rw [show putF f v ((k, x) :: r) = (if k = f then (k, v) :: r else (k, x) :: putF f v r) from rfl]
    by_cases hk : k = f
    · rw [if_pos hk]
      by_cases h : g = k
      · have hb : (g == k) = true := beq_iff_eq.mpr h
        simp only [List.lookup, hb, if_pos (h.trans hk)]
      · have hb : (g == k) = false := beq_eq_false_iff_ne.mpr h
        simp only [List.lookup, hb, if_neg (fun e : g = f => h (e.trans hk.symm))]
    · rw [if_neg hk]
      by_cases h : g = k
      · have hb : (g == k) = true := beq_iff_eq.mpr h
        simp only [List.lookup, hb, if_neg (fun e : g = f => hk (h.symm.trans e))]
      · have hb : (g == k) = false := beq_eq_false_iff_ne.mpr h
        simp only [List.lookup, hb]
        exact ih
theorem keys_putF (f : Str) (v : V) : ∀ fs : List (Str × V), f ∈ (putF f v fs).map (·.1) ∧ ∀ g, g ∈ fs.map (·.1) → g ∈ (putF f v fs).map (·.1)
  | [] => ⟨by simp [putF], fun g h => by simp at h⟩
  | (k, x) :: r => by
    obtain ⟨i1, i2⟩ := keys_putF f v r
    rw [show putF f v ((k, x) :: r) = (if k = f then (k, v) :: r else (k, x) :: putF f v r) from rfl]
    by_cases hk : k = f
    · rw [if_pos hk]
      subst hk
      exact ⟨by simp, fun g h => by simpa using h⟩
    · rw [if_neg hk]
      refine ⟨?_, fun g h => ?_⟩
      · rw [List.map_cons]
        exact List.mem_cons_of_mem _ i1
      · rw [List.map_cons] at h ⊢
        rcases List.mem_cons.mp h with e | e
        · exact List.mem_cons.mpr (.inl e)
        · exact List.mem_cons_of_mem _ (i2 g e)
theorem length_putF (f : Str) (v : V) : ∀ fs : List (Str × V), (putF f v fs).length ≤ fs.length + 1
  | [] => by simp [putF]
  | (k, x) :: r => by
    have ih := length_putF f v r
    rw [show putF f v ((k, x) :: r) = (if k = f then (k, v) :: r else (k, x) :: putF f v r) from rfl]
    by_cases hk : k = f
    · rw [if_pos hk, List.length_cons, List.length_cons]; omega
    · rw [if_neg hk, List.length_cons, List.length_cons]; omega

theorem RelO.some_of {v : V} {o : Option Value} (r : RelO (some v) o) : ∃ u, o = some u ∧ RelV v u := by
  cases o with
  | none => exact (show False from r).elim
  | some u => exact ⟨u, rfl, r⟩
theorem RelO.none_of {o : Option Value} (r : RelO none o) : o = none := by
  cases o with
  | none => rfl
  | some u => exact (show False from r).elim
theorem handed_of {v : V} {u : Value} (r : RelV v u) : PySem.W.handedIn u = true := by
  cases v with
  | non => cases (show u = Value.none from r); rfl
  | bl b => cases (show u = Value.bool b from r); rfl
  | int i => obtain ⟨t, e⟩ := (show ∃ t, u = Value.int i t from r); cases e; rfl
  | str x => obtain ⟨t, e⟩ := (show ∃ t, u = Value.str x t from r); cases e; rfl
  | byt b => obtain ⟨t, e⟩ := (show ∃ t, u = Value.bytes b t from r); cases e; rfl
  | flt b => obtain ⟨t, e⟩ := (show ∃ t, u = Value.float b t from r); cases e; rfl
  | ref a => cases (show u = Value.ref a from r); rfl
  | ty n => cases (show u = Value.type n from r); rfl

section
variable {P : Program} {w : World} {H H' : Hp} {h h' : Heap} {a C dx : Addr} {fs fs' : List (Str × V)}
theorem ins_get (hok : HOk P w H h) (e : H a = some (.ins C dx fs)) : ∃ mA, ObjM h a dx C mA ∧ (∀ f, RelO (fs.lookup f) (mA f)) ∧ PySem.Within mA (fs.map (·.1)) ∧ fs.length ≤ 1000 ∧ H dx = some (.own a) := by
  obtain ⟨d, z, ne, ob, mA, n, r, q⟩ := (show ObjOk P w H h a (.ins C dx fs) from hok a _ e)
  exact ⟨mA, ⟨ob, n, ne⟩, r, q, z, d⟩
end

/-! ### what of the text a class must have -/
structure Cls (K : PySem.W.Frag) (C : Addr) : Prop where
  pg : PySem.W.plainGet K C Str.empty = true
  hd : PySem.W.hasDictIn K C = true
  po : PySem.W.plainOver K C = true
  sa : PySem.W.findIn K (.ref C) "__setattr__" = some (some (.builtin "object.__setattr__"))
theorem Cls.get {K : PySem.W.Frag} {C : Addr} (c : Cls K C) (f : Str) : PySem.W.plainGet K C f = true := c.pg
/-- no class of it has the name -/
def NoAttr (K : PySem.W.Frag) (C : Addr) (f : Str) : Prop := PySem.W.findIn K (.ref C) f = some none
theorem NoAttr.taker {K : PySem.W.Frag} {C : Addr} {f : Str} (n : NoAttr K C f) : PySem.W.takerIn K C f = some none := by
  unfold PySem.W.takerIn
  rw [show PySem.W.findIn K (.ref C) f = some none from n]
  rfl
/-- a constant of the class -/
structure Con (K : PySem.W.Frag) (C : Addr) (f : Str) (v : V) (u : Value) : Prop where
  at_ : PySem.W.findIn K (.ref C) f = some (some u)
  rel : RelV v u
  get : PySem.W.specialIn K u "__get__" = some none
  cp : PySem.W.copiedNames.contains f = false
/-- a method: a plain def of the class or of one above it -/
structure Meth (K : PySem.W.Frag) (C : Addr) (m : Str) (f : Addr) : Prop where
  at_ : PySem.W.findIn K (.ref C) m = some (some (.ref f))
  fn : PySem.W.isFn K (.ref f) = true
  kp : PySem.W.keepIn K (.ref f) = true

section
variable {X : Cx} {pins : List (Addr × Obj)} {σ : St} {H : Hp} {s : Shared} {a C dx : Addr} {fs : List (Str × V)} {f : Str} {v : V} {A : Around} {E : Value → Shared → Prop}

theorem getattr_ok {b : Bool} {Q : Value → Shared → Prop} (I : Inv X pins σ H s) (e : H a = some (.ins C dx fs)) (c : Cls X.K C) (n : NoAttr X.K C f) (l : fs.lookup f = some v)
    (h : ∀ u s', Inv X pins σ H s' → RelV v u → Q u s') : wpAny (model X.prog X.w) A (getAttr (.ref a) f b) Q E s := by
  obtain ⟨mA, O, r, _, _, _⟩ := ins_get I.hok e
  obtain ⟨u, hu, ru⟩ := RelO.some_of (v := v) (o := mA f) (by rw [← l]; exact r f)
  exact get_map I.kIn O (c.get f) c.hd n hu (handed_of ru) (h u _ (I.tok _) ru)

theorem getcon_ok {b : Bool} {u : Value} {Q : Value → Shared → Prop} (I : Inv X pins σ H s) (e : H a = some (.ins C dx fs)) (c : Cls X.K C) (k : Con X.K C f v u) (l : fs.lookup f = none)
    (h : ∀ s', Inv X pins σ H s' → Q u s') : wpAny (model X.prog X.w) A (getAttr (.ref a) f b) Q E s := by
  obtain ⟨mA, O, r, _, _, _⟩ := ins_get I.hok e
  have hn : mA f = none := RelO.none_of (by rw [← l]; exact r f)
  exact get_const I.kIn O (c.get f) c.hd k.at_ k.get k.cp hn (handed_of k.rel) (h _ (I.tok _))

theorem getmeth_ok {m : Str} {g : Addr} {pl : Sem Bool} {Q : Value × List Value → Shared → Prop} (I : Inv X pins σ H s) (e : H a = some (.ins C dx fs)) (c : Cls X.K C) (k : Meth X.K C m g) (l : fs.lookup m = none)
    (h : Q (.ref g, [.ref a]) s) : wpAny (model X.prog X.w) A (getMethod (.ref a) m pl) Q E s := by
  obtain ⟨mA, O, r, _, _, _⟩ := ins_get I.hok e
  have hn : mA m = none := RelO.none_of (by rw [← l]; exact r m)
  exact get_meth I.kIn O (c.get m) k.at_ k.fn hn h

theorem setattr_ok {y : V} {u : Value} {Q : Unit → Shared → Prop} (I : Inv X pins σ H s) (e : H a = some (.ins C dx fs)) (c : Cls X.K C) (n : NoAttr X.K C f) (hl : fs.length < 1000) (ry : RelV y u)
    (h : ∀ s', Inv X pins σ (upd H a (.ins C dx (putF f y fs))) s' → Q () s') : wpAny (model X.prog X.w) A (setAttr (.ref a) f u) Q E s := by
  obtain ⟨mA, O, r, wi, _, ho⟩ := ins_get I.hok e
  have hz : (fs.map (·.1)).length ≤ sizeLine := by rw [List.length_map, sizeLine_eq]; omega
  refine set_map I.kIn O c.sa c.po n.taker c.hd wi hz fun h' O' sb => h _ ?_
  have hd : ∃ o, h'.get? dx = some o := let ⟨o, _, _, e', _⟩ := O'.ns; ⟨o, e'⟩
  refine I.write (x := a) (e := dx) (by rw [e]; exact True.intro) (.inr ho) (fun b q hb z => (sb.2 b hb).trans z) hd ?_
  refine ⟨by rw [upd_ne O.ne]; exact ho, ?_, O.ne, O'.obj, _, O'.ns, fun g => ?_, fun g hg => ?_⟩
  · have := length_putF f y fs; omega
  · show RelO ((putF f y fs).lookup g) (if g = f then some u else mA g)
    rw [lookup_putF]
    by_cases q : g = f
    · rw [if_pos q, if_pos q]; exact ry
    · rw [if_neg q, if_neg q]; exact r g
  · by_cases q : g = f
    · rw [q]; exact (keys_putF f y fs).1
    · refine (keys_putF f y fs).2 g (wi g fun z => hg ?_)
      show (if g = f then some u else mA g) = none
      rw [if_neg q]; exact z

/-- a new instance, tracked, without attributes -/
theorem Inv.made (I : Inv X pins σ H s) : Inv X pins σ (upd (upd H s.heap.objs.size (.own (s.heap.objs.size + 1))) (s.heap.objs.size + 1) (.ins C s.heap.objs.size []))
    { s with heap := (s.heap.push PySem.W.emptyDict).push (PySem.W.instObj C s.heap.objs.size) } := by
  have e1 : (s.heap.push PySem.W.emptyDict).get? s.heap.objs.size = some PySem.W.emptyDict := Heap.get?_push_size s.heap rfl
  have e2 : ((s.heap.push PySem.W.emptyDict).push (PySem.W.instObj C s.heap.objs.size)).get? (s.heap.objs.size + 1) = some (PySem.W.instObj C s.heap.objs.size) := by
    have := Heap.get?_push_size (s.heap.push PySem.W.emptyDict) (o := PySem.W.instObj C s.heap.objs.size) rfl
    rwa [Heap.size_push] at this
  have e3 : (s.heap.push PySem.W.emptyDict).Ns s.heap.objs.size (fun _ => none) := ⟨PySem.W.emptyDict, #[], _, e1, rfl, (fun e he => absurd he (by simp)), fun _ => rfl⟩
  have I1 := I.laid (a := s.heap.objs.size) (o := .own (s.heap.objs.size + 1)) (h' := s.heap.push PySem.W.emptyDict) (t' := s.toks) (fun b u q => Heap.get?_push_of_some _ q) (Nat.le_refl _) ⟨_, e1⟩
  refine I1.laid (a := s.heap.objs.size + 1) (o := .ins C s.heap.objs.size []) (t' := s.toks) (fun b u q => Heap.get?_push_of_some _ q) (Nat.le_of_eq (Heap.size_push _ _)) ?_
  have ne : s.heap.objs.size ≠ s.heap.objs.size + 1 := Nat.ne_of_lt (Nat.lt_succ_self _)
  refine ⟨by rw [upd_ne ne, upd_same], Nat.zero_le _, ne, e2, fun _ => none, (Heap.Ns1.of_empty e3).at fun o q => Heap.get?_push_of_some _ q, fun _ => True.intro, fun y hy => absurd rfl hy⟩

/-- e.f where nothing but the object is asked: through attributeBase (super) and the last hold -/
theorem attr_of {prog : Program} {w : World} {env : Env} {e : Expr} {f : Str} {pos : Pos} {s : Shared} {Q : Value → Shared → Prop} (hb : attributeBase e f env (eval e env) = eval e env)
    (h : wpAny (model prog w) A (eval e env) (fun o s₁ => wpAny (model prog w) A (getAttr o f true) Q E s₁) E s) : wpAny (model prog w) A (eval (.Attribute e f pos) env) Q E s :=
  Attribute_any_ h (by rw [arm_eval_Attribute, hb])
end

/-! ### readings and rules -/
/-- e.f, an attribute of the instance -/
def tFld (K : PySem.W.Frag) (ta : TE) (f : Str) : TE := fun σ H Q => ta σ H fun x H1 => ∃ a C dx fs v, x = .ref a ∧ H1 a = some (.ins C dx fs) ∧ Cls K C ∧ NoAttr K C f ∧ fs.lookup f = some v ∧ Q v H1
/-- e.f, a constant of the class -/
def tCon (K : PySem.W.Frag) (ta : TE) (f : Str) : TE := fun σ H Q => ta σ H fun x H1 => ∃ a C dx fs v u, x = .ref a ∧ H1 a = some (.ins C dx fs) ∧ Cls K C ∧ Con K C f v u ∧ fs.lookup f = none ∧ Q v H1
/-- e.f = value -/
def sFld (K : PySem.W.Frag) (ta tv : TE) (f : Str) : TS := fun D σ H => tv σ H fun y H1 => ta σ H1 fun x H2 => ∃ a C dx fs, x = .ref a ∧ H2 a = some (.ins C dx fs) ∧ Cls K C ∧ NoAttr K C f ∧ fs.length < 1000 ∧
  D.nx σ (upd H2 a (.ins C dx (putF f y fs)))
/-- an augmented operator on two values -/
def InOp (X : Cx) (op : Operator) (rd : V → V → Hp → VK → Prop) : Prop :=
  ∀ (pins : List (Addr × Obj)) (s : Shared) (σ : St) (H : Hp) (x y : V) (u v : Value) (Q : VK), Inv X pins σ H s → RelV x u → RelV y v → rd x y H Q → wpAny (model X.prog X.w) X.A (inplaceOp op u v) (EP X pins σ Q) X.xe s
/-- e.f op= value -/
def sFldAug (K : PySem.W.Frag) (ta tv : TE) (rd : V → V → Hp → VK → Prop) (f : Str) : TS := fun D σ H => ta σ H fun x H1 => ∃ a C dx fs v, x = .ref a ∧ H1 a = some (.ins C dx fs) ∧ Cls K C ∧ NoAttr K C f ∧ fs.lookup f = some v ∧
  tv σ H1 fun y H2 => rd v y H2 fun z H3 => ∃ dx' fs', H3 a = some (.ins C dx' fs') ∧ fs'.length < 1000 ∧ D.nx σ (upd H3 a (.ins C dx' (putF f z fs')))

section
variable {X : Cx} {o e value : Expr} {f : Str} {pos pos' tpos : Pos} {ta tv : TE}
theorem pe_fld (he : PE X e ta) (hb : attributeBase e f X.env (eval e X.env) = eval e X.env) : PE X (.Attribute e f pos) (tFld X.K ta f) := by
  intro pins s σ H Q I h
  refine attr_of hb (thn (he pins s σ H _ I h) fun u s1 ⟨x, H1, I1, rx, a, C, dx, fs, v, ex, ea, c, n, l, q⟩ => ?_)
  subst ex
  obtain rfl : u = Value.ref a := rx
  exact getattr_ok I1 ea c n l fun u' s2 I2 ru => ⟨v, H1, I2, ru, q⟩
theorem pe_con (he : PE X e ta) (hb : attributeBase e f X.env (eval e X.env) = eval e X.env) : PE X (.Attribute e f pos) (tCon X.K ta f) := by
  intro pins s σ H Q I h
  refine attr_of hb (thn (he pins s σ H _ I h) fun u s1 ⟨x, H1, I1, rx, a, C, dx, fs, v, u0, ex, ea, c, k, l, q⟩ => ?_)
  subst ex
  obtain rfl : u = Value.ref a := rx
  exact getcon_ok I1 ea c k l fun s2 I2 => ⟨v, H1, I2, k.rel, q⟩
theorem ps_fld (ha : PE X o ta) (hv : PE X value tv) (hs : swapsWith value (some (.Attribute o f pos')) pos.line X.env = pure false) : PS X (.Assign [.Attribute o f pos'] value pos) (sFld X.K ta tv f) := by
  intro pins s σ H D I h
  refine plainObj_wpAny_Assign_Attribute (thn (hv pins s σ H _ I h) fun u s1 ⟨y, H1, I1, ry, q⟩ => thn (ha pins s1 σ H1 _ I1 q) fun ov s2 ⟨x, H2, I2, rx, a, C, dx, fs, ex, ea, c, n, l, q2⟩ => ?_) hs
  subst ex
  obtain rfl : ov = Value.ref a := rx
  exact setattr_ok I2 ea c n l ry fun s3 I3 => ⟨σ, _, I3, q2⟩
theorem ps_fldaug {op : Operator} {rd : V → V → Hp → VK → Prop} (ha : PE X o ta) (hv : PE X value tv) (hop : InOp X op rd) : PS X (.AugAssign (.Attribute o f tpos) op value pos) (sFldAug X.K ta tv rd f) := by
  intro pins s σ H D I h
  refine wpAny_AugAssign_AttributeAny (thn (ha pins s σ H _ I h) fun ov s1 ⟨x, H1, I1, rx, a, C, dx, fs, v, ex, ea, c, n, l, q⟩ => ?_)
  subst ex
  obtain rfl : ov = Value.ref a := rx
  refine getattr_ok I1 ea c n l fun u s2 I2 ru => thn (hv pins s2 σ H1 _ I2 q) fun w3 s3 ⟨y, H2, I3, ry, q3⟩ => thn (hop pins s3 σ H2 v y u w3 _ I3 ru ry q3) fun w4 s4 ⟨z, H3, I4, rz, dx', fs', ea', l', q4⟩ => ?_
  exact setattr_ok I4 ea' c n l' rz fun s5 I5 => ⟨σ, _, I5, q4⟩
def rAdd : V → V → Hp → VK → Prop := fun x y H Q => ∃ i j, x = .int i ∧ y = .int j ∧ Q (.int (i + j)) H
def rSub : V → V → Hp → VK → Prop := fun x y H Q => ∃ i j, x = .int i ∧ y = .int j ∧ Q (.int (i - j)) H
theorem in_add : InOp X .Add rAdd := by
  rintro pins s σ H x y u v Q I rx ry ⟨i, j, rfl, rfl, q⟩
  obtain ⟨t, rfl⟩ := (show ∃ t, u = Value.int i t from rx)
  obtain ⟨t', rfl⟩ := (show ∃ t', v = Value.int j t' from ry)
  exact PyProof.Rows.iadd_int ⟨.int (i + j), H, I.tok _, ⟨_, rfl⟩, q⟩
theorem in_sub : InOp X .Sub rSub := by
  rintro pins s σ H x y u v Q I rx ry ⟨i, j, rfl, rfl, q⟩
  obtain ⟨t, rfl⟩ := (show ∃ t, u = Value.int i t from rx)
  obtain ⟨t', rfl⟩ := (show ∃ t', v = Value.int j t' from ry)
  exact PyProof.Rows.isub_int ⟨.int (i - j), H, I.tok _, ⟨_, rfl⟩, q⟩

/-- what is between an instance and its method: the tree of a method call -/
theorem methcall_of {pl : Sem Bool} {m : Str} {apos : Pos} {args : List Expr} {pins : List (Addr × Obj)} {s : Shared} {σ : St} {H : Hp} {Q : Value → Shared → Prop} {te : TE} (he : PE X e te) (I : Inv X pins σ H s)
    (h : te σ H fun x H1 => ∃ a C dx fs g, x = .ref a ∧ H1 a = some (.ins C dx fs) ∧ Cls X.K C ∧ Meth X.K C m g ∧ fs.lookup m = none ∧
      ∀ s1, Inv X pins σ H1 s1 → wpAny (model X.prog X.w) X.A (callWith pos (.ref g) [.ref a] (backTo pos (starEach args X.env)) (backToKw pos (keywordEach [] X.env))) Q X.xe s1)
    (ht : eval (.Call (.Attribute e m apos) args [] pos) X.env = (do
      let ov ← eval e X.env
      standAt apos.atName
      let (f, first) ← holding [ov] (getMethod ov m pl)
      callWith pos f first (backTo pos (starEach args X.env)) (backToKw pos (keywordEach [] X.env)))) :
    wpAny (model X.prog X.w) X.A (eval (.Call (.Attribute e m apos) args [] pos) X.env) Q X.xe s := by
  refine PySem.W.methodCall_KW (pl := pl) (thn (he pins s σ H _ I h) fun u s1 ⟨x, H1, I1, rx, a, C, dx, fs, g, ex, ea, c, k, l, q⟩ => ?_) ht
  subst ex
  obtain rfl : u = Value.ref a := rx
  exact getmeth_ok I1 ea c k l (q s1 I1)
end

/-! ### isinstance -/
section
variable {X : Cx} {pins : List (Addr × Obj)} {σ : St} {H : Hp} {s : Shared} {A : Around} {E : Value → Shared → Prop} {Q : Value → Shared → Prop} {c : Value} {b : Bool}
/-- the type of a value, as the fragment's deciders take it; for an instance its class -/
inductive TyOf (K : PySem.W.Frag) (H : Hp) : V → Value → Prop where
  | non : TyOf K H .non (.type "NoneType")
  | bl (x : Bool) : TyOf K H (.bl x) (.type "bool")
  | int (i : Int) : TyOf K H (.int i) (.type "int")
  | str (x : Str) : TyOf K H (.str x) (.type "str")
  | flt (x : UInt64) : TyOf K H (.flt x) (.type "float")
  | lst {a : Addr} {xs : List V} (e : H a = some (.lst xs)) : TyOf K H (.ref a) (.type "list")
  | frz {a : Addr} {o : Obj} {xs : List V} (e : H a = some (.frz o (.lst xs))) : TyOf K H (.ref a) (.type "list")
  | tup {a : Addr} {xs : List V} (e : H a = some (.tup xs)) : TyOf K H (.ref a) (.type "tuple")
  | dK {a : Addr} {kvs : List (Key × V)} (e : H a = some (.dK kvs)) : TyOf K H (.ref a) (.type "dict")
  | dT {a : Addr} {kvs : List (List Key × V)} (e : H a = some (.dT kvs)) : TyOf K H (.ref a) (.type "dict")
  | ins {a C dx : Addr} {fs : List (Str × V)} (e : H a = some (.ins C dx fs)) (cl : Cls K C) (ha : PySem.W.findIn K (.ref C) "__class__" = some (some (.builtin "object.__class__")))
      (hn : PySem.W.specialIn K (.builtin "object.__class__") "__get__" = some (some (.builtin "getset_descriptor.__get__"))) (htk : PySem.W.takesIn K (.builtin "object.__class__") = some true)
      (hm : PySem.W.mroIn K C (.type "object") = some true) : TyOf K H (.ref a) (.ref C)
/-- isinstance(x, c) for one class c, a built-in or an own one: kitOne's answer -/
theorem isinst_ok {x : V} {u t : Value} (I : Inv X pins σ H s) (rx : RelV x u) (ty : TyOf X.K H x t) (e : PySem.W.kitOne X.K t c = some b) (h : ∀ tk, Q (.bool b) { s with toks := tk }) :
    wpAny (model X.prog X.w) A (call (.builtin "isinstance") [u, c]) Q E s := by
  cases ty with
  | non => cases (show u = Value.none from rx); exact PySem.W.kia_one PySem.W.kitx_none I.kIn True.intro e (fun z => nomatch z) h
  | bl y => cases (show u = Value.bool y from rx); exact PySem.W.kia_one PySem.W.kitx_bool I.kIn True.intro e (fun z => nomatch z) h
  | int i => obtain ⟨t, q⟩ := (show ∃ t, u = Value.int i t from rx); cases q; exact PySem.W.kia_one PySem.W.kitx_int I.kIn True.intro e (fun z => nomatch z) h
  | str y => obtain ⟨t, q⟩ := (show ∃ t, u = Value.str y t from rx); cases q; exact PySem.W.kia_one PySem.W.kitx_str I.kIn True.intro e (fun z => nomatch z) h
  | flt y => obtain ⟨t, q⟩ := (show ∃ t, u = Value.float y t from rx); cases q; exact PySem.W.kia_one PySem.W.kitx_float I.kIn True.intro e (fun z => nomatch z) h
  | @lst a xs ea =>
    cases (show u = Value.ref a from rx)
    obtain ⟨_, _, n, _, h1⟩ := (show ObjOk X.prog X.w H s.heap a (.lst xs) from I.hok a _ ea)
    exact PySem.W.kia_one PySem.W.kitx_list I.kIn ⟨_, h1, rfl⟩ e (fun z => nomatch z) h
  | @frz a ob xs ea =>
    cases (show u = Value.ref a from rx)
    obtain ⟨_, _, _, n, _, h1⟩ := (show ObjOk X.prog X.w H s.heap a (.frz ob (.lst xs)) from I.hok a _ ea)
    exact PySem.W.kia_one PySem.W.kitx_list I.kIn ⟨_, h1, rfl⟩ e (fun z => nomatch z) h
  | @tup a xs ea =>
    cases (show u = Value.ref a from rx)
    obtain ⟨_, _, _, p⟩ := (show ObjOk X.prog X.w H s.heap a (.tup xs) from I.hok a _ ea)
    obtain ⟨o, h1, h2, _⟩ := p
    exact PySem.W.kia_one PySem.W.kitx_tuple I.kIn ⟨o, h1, h2⟩ e (fun z => nomatch z) h
  | @dK a kvs ea =>
    cases (show u = Value.ref a from rx)
    obtain ⟨_, _, vs, _, p⟩ := (show ObjOk X.prog X.w H s.heap a (.dK kvs) from I.hok a _ ea)
    obtain ⟨o, es, ep, h1, h2, _⟩ := p
    exact PySem.W.kia_one PySem.W.kitx_dict I.kIn ⟨o, h1, h2.1⟩ e (fun z => nomatch z) h
  | @dT a kvs ea =>
    cases (show u = Value.ref a from rx)
    obtain ⟨_, _, xs, _, o, es, ep, h1, h2, _⟩ := (show ObjOk X.prog X.w H s.heap a (.dT kvs) from I.hok a _ ea)
    exact PySem.W.kia_one PySem.W.kitx_dict I.kIn ⟨o, h1, h2.1⟩ e (fun z => nomatch z) h
  | @ins a C dx fs ea cl ha hn htk hm =>
    cases (show u = Value.ref a from rx)
    obtain ⟨mA, O, _⟩ := ins_get I.hok ea
    obtain ⟨od, J, _⟩ := O.look
    exact PySem.W.kia_one (PySem.W.kitx_own (cl.get _) cl.hd ha hn htk hm) I.kIn J e (fun z => nomatch z) h
end
end L2

namespace L2
open PySem PySem.Spec PyProof.Rows

/-! ### room -/
structure Room (k : Nat) (A : Around) : Prop where
  hd : A.handled = none
  dp : A.depth + 3 * k + 5 < recursionLimit
  un : A.units + 16 * k + 200 < cLine
theorem Room.mono {j k : Nat} {A : Around} (r : Room k A) (h : j ≤ k) : Room j A := ⟨r.hd, by have := r.dp; omega, by have := r.un; omega⟩
theorem Room.deeper {k : Nat} {A : Around} (r : Room (k + 1) A) (env : Env) : Room k (A.deeper env) :=
  ⟨r.hd, by have := r.dp; show A.depth + 1 + 3 * k + 5 < _; omega, by have := r.un; show A.units + 3 + 16 * k + 200 < _; omega⟩
theorem Room.in1 {k : Nat} {A : Around} (r : Room (k + 1) A) : Room k A.in1 :=
  ⟨r.hd, by have := r.dp; show A.depth + 3 * k + 5 < _; omega, by have := r.un; show A.units + 1 + 16 * k + 200 < _; omega⟩
theorem make_depth {A : Around} {C : Addr} {us : List Value} {kw : List (Str × Value)} : (A.under (.builtin "type.__call__" ⟨.ref C :: us, kw⟩)).depth = A.depth + 1 := by
  first | rfl | simp [Around.under, Code.weight, Code.isCreation, Code.isGuard, Code.isCaller, Code.frames, Code.isFrame, guardIds]
theorem make_units {A : Around} {C : Addr} {us : List Value} {kw : List (Str × Value)} : (A.under (.builtin "type.__call__" ⟨.ref C :: us, kw⟩)).units = A.units + 1 := by
  first | rfl | simp [Around.under, Code.cUnits, Code.frames, Code.isFrame]
theorem Room.make {k : Nat} {A : Around} (r : Room (k + 1) A) (C : Addr) (us : List Value) (kw : List (Str × Value)) : Room k (A.under (.builtin "type.__call__" ⟨.ref C :: us, kw⟩)) :=
  ⟨r.hd, by have := r.dp; rw [make_depth]; omega, by have := r.un; rw [make_units]; omega⟩
theorem Room.depth {k : Nat} {A : Around} (r : Room k A) : A.depth < recursionLimit := by have := r.dp; omega
theorem Room.units {k : Nat} {A : Around} (r : Room k A) : A.units + 64 < cLine := by have := r.un; omega
theorem Room.units0 {k : Nat} {A : Around} (r : Room k A) : A.units < cLine := by have := r.un; omega

/-! ### argument lists and displays -/
def tNil : TA := fun _ H Q => Q [] H
def tCons (ta : TE) (tr : TA) : TA := fun σ H Q => ta σ H fun x H1 => tr σ H1 fun xs H2 => Q (x :: xs) H2
section
variable {X : Cx} {e : Expr} {es : List Expr} {te : TE} {t : TA} {pos : Pos}
theorem pa_nil : PA X [] tNil := fun _ _ _ _ H Q I h => Calls.spliced_nil ⟨[], H, I, .nil, h⟩
theorem pa_cons (ha : PE X e te) (hr : PA X es t) (hs : starEach (e :: es) X.env = (false, eval e X.env) :: starEach es X.env := by rfl) : PA X (e :: es) (tCons te t) := by
  intro pos pins s σ H Q I h
  rw [hs]
  show wpAny _ _ (spliced ((false, eval e X.env) :: backTo pos (starEach es X.env))) _ _ s
  refine Calls.spliced_cons (thn (ha pins s σ H _ I h) fun u s1 ⟨x, H1, I1, r1, q1⟩ => ?_)
  exact thn (hr pos pins s1 σ H1 _ I1 q1) fun us s2 ⟨xs, H2, I2, r2, q2⟩ => ⟨x :: xs, H2, I2, .cons r1 r2, q2⟩

/-- a tuple, a list of written items -/
def tTup (t : TA) : TE := fun σ H Q => t σ H fun xs H1 => xs.length ≤ sizeLine ∧ ∀ p, H1 p = none → Q (.ref p) (upd H1 p (.tup xs))
def tLst (t : TA) : TE := fun σ H Q => t σ H fun xs H1 => xs.length ≤ sizeLine ∧ ∀ p, H1 p = none → Q (.ref p) (upd H1 p (.lst xs))
theorem pe_tup {x1} (h : PA X es t) : PE X (.Tuple es x1 pos) (tTup t) := by
  intro pins s σ H Q I hq
  refine wpAny_Tuple_spliced (thn (h pos pins s σ H _ I hq) fun us s1 ⟨xs, H1, I1, r, z, q⟩ => ⟨by rw [← r.length]; exact z, ?_⟩)
  have hf : H1 s1.heap.objs.size = none := I1.hok.fresh (Nat.le_refl _)
  refine ⟨.ref s1.heap.objs.size, upd H1 s1.heap.objs.size (.tup xs), I1.laid (t' := s1.toks) (fun b u e => Heap.get?_push_of_some _ e) (Nat.le_refl _) ?_, rfl, q _ hf⟩
  exact ⟨z, us, r, ⟨_, Heap.get?_push_size _ rfl, rfl, _, rfl⟩⟩
theorem pe_lst (h : PA X es t) : PE X (.List es pos) (tLst t) := by
  intro pins s σ H Q I hq
  refine wpAny_List_spliced (thn (h pos pins s σ H _ I hq) fun us s1 ⟨xs, H1, I1, r, z, q⟩ => ⟨by rw [← r.length]; exact z, ?_⟩)
  have hf : H1 s1.heap.objs.size = none := I1.hok.fresh (Nat.le_refl _)
  refine ⟨.ref s1.heap.objs.size, upd H1 s1.heap.objs.size (.lst xs), I1.laid (t' := s1.toks) (fun b u e => Heap.get?_push_of_some _ e) (Nat.le_refl _) ?_, rfl, q _ hf⟩
  exact ⟨z, us, 0, r, Heap.get?_push_size _ rfl⟩
end

/-! ### what a def promises -/
/-- a def's promise: the bound arguments in the parameters' order, the heap, the wanted end, the wanted exception -/
abbrev Sp := List V → Hp → VK → XK → Prop
/-- how an exception lies behind a call (file 08 gives it): the callers' frames, abstract heap and state ahead of the call, the wish, the exception, the state -/
abbrev CXT := List Env → Hp → Shared → XK → Value → Shared → Prop

/-- the state at a call -/
structure Env0 (P : Program) (w : World) (K : PySem.W.Frag) (mg : Str → Option Value) (base : Heap) (A : Around) (outer : List Env) (s : Shared) (H : Hp) : Prop where
  frames : A.frames = some outer
  mod : Mod K mg base
  bs : ∀ b o, base.get? b = some o → s.heap.get? b = some o ∧ H b = none
  bsz : base.objs.size ≤ s.heap.objs.size
  funs : s.heap.FunFrames base outer
  frf : ∀ b ∈ frs outer, H b = none
  hok : HOk P w H s.heap
  bare : AllBare s.gens
/-- a call's end -/
def CE (outer : List Env) (P : Program) (w : World) (H : Hp) (s : Shared) (Q : VK) (u : Value) (s' : Shared) : Prop :=
  ∃ v H', s'.os = s.os ∧ AllBare s'.gens ∧ Un (frs outer) [] H H' s.heap s'.heap ∧ HOk P w H' s'.heap ∧ RelV v u ∧ Q v H'
def CR (CX : CXT) (outer : List Env) (P : Program) (w : World) (H : Hp) (s : Shared) (Q : VK) (E : XK) (r : Result) (s' : Shared) : Prop :=
  match r with
  | .ok (.ret u) => CE outer P w H s Q u s'
  | .ok _ => False
  | .error e => CX outer H s E e s'
structure FnOk (P : Program) (w : World) (K : PySem.W.Frag) (mg : Str → Option Value) (base : Heap) (CX : CXT) (k : Nat) (f : Addr) (fd : FuncData) (ps : List Str) (sp : Sp) : Prop where
  len : ∀ vs H Q E, sp vs H Q E → vs.length = ps.length
  run : ∀ (A : Around) (outer : List Env) (s : Shared) (H : Hp) (args : Args) (us : List Value) (vs : List V) (Q : VK) (E : XK), Room k A → Env0 P w K mg base A outer s H → BindsTo s fd args (ps.zip us) → Vals vs us → sp vs H Q E →
    codeAny (model P w) A (.call (.ref f) args) (CR CX outer P w H s Q E) s
theorem FnOk.mono {P : Program} {w : World} {K : PySem.W.Frag} {mg : Str → Option Value} {base : Heap} {CX : CXT} {j k : Nat} {f : Addr} {fd : FuncData} {ps : List Str} {sp : Sp} (F : FnOk P w K mg base CX j f fd ps sp) (h : j ≤ k) :
    FnOk P w K mg base CX k f fd ps sp := ⟨F.len, fun A outer s H args us vs Q E hr => F.run A outer s H args us vs Q E (hr.mono h)⟩
/-- a weaker promise -/
theorem FnOk.imp {P : Program} {w : World} {K : PySem.W.Frag} {mg : Str → Option Value} {base : Heap} {CX : CXT} {k : Nat} {f : Addr} {fd : FuncData} {ps : List Str} {sp sp' : Sp} (F : FnOk P w K mg base CX k f fd ps sp)
    (h : ∀ vs H Q E, sp' vs H Q E → sp vs H Q E) : FnOk P w K mg base CX k f fd ps sp' :=
  ⟨fun vs H Q E q => F.len vs H Q E (h _ _ _ _ q), fun A outer s H args us vs Q E hr he hb hv hs => F.run A outer s H args us vs Q E hr he hb hv (h _ _ _ _ hs)⟩

theorem Env0.make {P : Program} {w : World} {K : PySem.W.Frag} {mg : Str → Option Value} {base : Heap} {A : Around} {outer : List Env} {s : Shared} {H : Hp} (e : Env0 P w K mg base A outer s H) (C : Addr) (us : List Value) (kw : List (Str × Value)) :
    Env0 P w K mg base (A.under (.builtin "type.__call__" ⟨.ref C :: us, kw⟩)) outer s H := ⟨by first | exact e.frames | (simpa [Around.under, Code.envs, Code.isFrame, pushEnvs] using e.frames), e.mod, e.bs, e.bsz, e.funs, e.frf, e.hok, e.bare⟩
theorem Env0.in1 {P : Program} {w : World} {K : PySem.W.Frag} {mg : Str → Option Value} {base : Heap} {A : Around} {outer : List Env} {s : Shared} {H : Hp} (e : Env0 P w K mg base A outer s H) :
    Env0 P w K mg base A.in1 outer s H := ⟨e.frames, e.mod, e.bs, e.bsz, e.funs, e.frf, e.hok, e.bare⟩

section
variable {X : Cx} {pins : List (Addr × Obj)} {σ : St} {H : Hp} {s s' : Shared}
/-- from a body: what a callee wants -/
theorem Inv.env0 (I : Inv X pins σ H s) : Env0 X.prog X.w X.K X.mg X.base X.A X.stack s H :=
  ⟨I.ok.frames, I.ok.mod, I.bs, Nat.le_trans I.ok.bsz I.sz, I.stack, I.stkFree, I.hok, I.bare⟩
/-- behind a call -/
theorem Inv.after {Q : VK} {u : Value} (I : Inv X pins σ H s) (h : CE X.stack X.prog X.w H s Q u s') : EP X pins σ Q u s' := by
  obtain ⟨v, H', os, bare, un, hok, r, q⟩ := h
  obtain ⟨hh, g, d, t, os'⟩ := s'
  obtain rfl : os' = s.os := os
  exact ⟨v, H', I.call (h' := hh) (g' := g) (d' := d) (t' := t) (ch := []) un hok bare (fun b z => absurd z (by simp)), r, q⟩
end

/-! ### calls -/
/-- f(..): the written arguments, then the defaults dvs; E: what is wanted of an exception -/
def tCall (sp : Sp) (dvs : List V) (E : XK) (t : TA) : TE := fun σ H Q => t σ H fun vs H1 => sp (vs ++ dvs) H1 Q E
/-- o.m(..) of an instance of the class at C -/
def tMeth (C : Addr) (m : Str) (sp : Sp) (dvs : List V) (E : XK) (ta : TE) (t : TA) : TE := fun σ H Q => ta σ H fun x H1 => ∃ a dx fs, x = .ref a ∧ H1 a = some (.ins C dx fs) ∧ fs.lookup m = none ∧
  t σ H1 fun vs H2 => sp (x :: (vs ++ dvs)) H2 Q E
/-- C(..): a new instance and its dict, then __init__ -/
def tMake (C : Addr) (sp : Sp) (dvs : List V) (E : XK) (t : TA) : TE := fun σ H Q => t σ H fun vs H1 => ∀ x dx, H1 x = none → H1 dx = none → dx ≠ x →
  sp (.ref x :: (vs ++ dvs)) (upd (upd H1 dx (.own x)) x (.ins C dx [])) (fun v H2 => v = .non ∧ Q (.ref x) H2) E

/-- how the parameters are bound: us the positional arguments, kw the keywords' values by name, ds the defaults that fill up -/
def Binds (K : PySem.W.Frag) (fd : FuncData) (ps : List Str) (ds : List Value) : Prop :=
  ∀ (s : Shared) (us : List Value), K.In s.heap → (us ++ ds).length = ps.length → BindsTo s fd ⟨us, []⟩ (ps.zip (us ++ ds))
/-- every parameter is given -/
theorem Binds.all {K : PySem.W.Frag} {fd : FuncData} {ps : List Str} (h : ∀ us : List Value, us.length = ps.length → bindArgs fd ⟨us, []⟩ = pure (ps.zip us)) : Binds K fd ps [] := fun s us _ hl => by
  rw [List.append_nil] at hl ⊢
  exact .of_eq (h us hl)

/-- an exception of a callee reaches what this body wants of exceptions -/
def Passes (CX : CXT) (X : Cx) (E : XK) : Prop := ∀ (pins : List (Addr × Obj)) (σ : St) (H : Hp) (s : Shared) (e : Value) (s' : Shared), Inv X pins σ H s → CX X.stack H s E e s' → X.xe e s'

section
variable {X : Cx} {CX : CXT} {k : Nat} {f C : Addr} {fd : FuncData} {ps : List Str} {sp : Sp} {dvs : List V} {ds : List Value} {E : XK} {x m : Str} {p pos apos : Pos} {e o : Expr} {es : List Expr} {ta : TE} {t : TA}

/-- the callee runs -/
theorem run_fn {pins : List (Addr × Obj)} {σ : St} {H : Hp} {s : Shared} {Q : VK} {us : List Value} {vs : List V} (F : FnOk X.prog X.w X.K X.mg X.base CX k f fd ps sp) (hr : Room k X.A) (hb : Binds X.K fd ps ds) (hd : Vals dvs ds) (hx : Passes CX X E)
    (I : Inv X pins σ H s) (r : Vals vs us) (h : sp (vs ++ dvs) H Q E) : wpAny (model X.prog X.w) X.A (call (.ref f) us) (EP X pins σ Q) X.xe s := by
  have r2 : Vals (vs ++ dvs) (us ++ ds) := r.append hd
  have hl : (us ++ ds).length = ps.length := by rw [← r2.length]; exact F.len _ _ _ _ h
  refine wpAny_call (codeAny_mono (F.run X.A X.stack s H ⟨us, []⟩ (us ++ ds) (vs ++ dvs) Q E hr I.env0 (hb s us I.kIn hl) r2 h) fun r s' hq => ?_)
  cases r with
  | error e => exact hx pins σ H s e s' I hq
  | ok fl =>
    cases fl with
    | ret u => exact I.after hq
    | next => exact False.elim hq
    | brk => exact False.elim hq
    | cont => exact False.elim hq

theorem pe_call (F : FnOk X.prog X.w X.K X.mg X.base CX k f fd ps sp) (hr : Room k X.A) (hg : Gl X x) (hm : X.mg x = some (.ref f)) (hk : PySem.W.keepIn X.K (.ref f) = true) (hb : Binds X.K fd ps ds) (hd : Vals dvs ds) (hx : Passes CX X E)
    (ha : PA X (e :: es) t) (hdb : (x == ("__debug__" : Str)) = false := by decide) (he : starEach (e :: es) X.env = (false, eval e X.env) :: starEach es X.env := by rfl) (hpl : (backTo pos (starEach es X.env)).any (·.1) = false := by rfl) :
    PE X (.Call (.Name x p) (e :: es) [] pos) (tCall sp dvs E t) := by
  intro pins s σ H Q I h
  refine wpAny_Call_Name_kw (ld_glob I hg hm ?_ hdb)
  refine PySem.W.callWith_K (h₀ := X.base) I.ok.mod.kin hk (thn (ha pos pins s σ H _ I h) fun us s1 ⟨vs, H1, I1, r, q⟩ => ⟨I1.kIn, ?_⟩) he hpl
  exact run_fn F hr hb hd hx I1 r q
theorem pe_call0 (F : FnOk X.prog X.w X.K X.mg X.base CX k f fd ps sp) (hr : Room k X.A) (hg : Gl X x) (hm : X.mg x = some (.ref f)) (hk : PySem.W.keepIn X.K (.ref f) = true) (hb : Binds X.K fd ps ds) (hd : Vals dvs ds) (hx : Passes CX X E)
    (hdb : (x == ("__debug__" : Str)) = false := by decide) : PE X (.Call (.Name x p) [] [] pos) (tCall sp dvs E tNil) := by
  intro pins s σ H Q I h
  refine wpAny_Call_Name_kw (ld_glob I hg hm ?_ hdb)
  exact PySem.W.callWith_K0 I.kIn hk (run_fn (us := []) F hr hb hd hx I .nil h)

/-- o.m(e, ..) -/
theorem pe_meth {pl : Sem Bool} (he : PE X o ta) (c : Cls X.K C) (hm : Meth X.K C m f) (F : FnOk X.prog X.w X.K X.mg X.base CX k f fd ps sp) (hr : Room k X.A) (hb : Binds X.K fd ps ds) (hd : Vals dvs ds) (hx : Passes CX X E) (ha : PA X (e :: es) t)
    (hst : starEach (e :: es) X.env = (false, eval e X.env) :: starEach es X.env := by rfl) (hpl : (backTo pos (starEach es X.env)).any (·.1) = false := by rfl)
    (ht : eval (.Call (.Attribute o m apos) (e :: es) [] pos) X.env = (do
      let ov ← eval o X.env
      standAt apos.atName
      let (f, first) ← holding [ov] (getMethod ov m pl)
      callWith pos f first (backTo pos (starEach (e :: es) X.env)) (backToKw pos (keywordEach [] X.env))) := by rfl) :
    PE X (.Call (.Attribute o m apos) (e :: es) [] pos) (tMeth C m sp dvs E ta t) := by
  intro pins s σ H Q I h
  refine PySem.W.methodCall_KW (pl := pl) (thn (he pins s σ H _ I h) fun u s1 ⟨x, H1, I1, rx, a, dx, fs, ex, ea, l, q⟩ => ?_) ht
  subst ex
  obtain rfl : u = Value.ref a := rx
  refine getmeth_ok I1 ea c hm l ?_
  refine PySem.W.callWith_K (first := [.ref a]) (h₀ := X.base) I.ok.mod.kin hm.kp (thn (ha pos pins s1 σ H1 _ I1 q) fun us s2 ⟨vs, H2, I2, r, q2⟩ => ⟨I2.kIn, ?_⟩) hst hpl
  exact run_fn (us := .ref a :: us) (vs := .ref a :: vs) F hr hb hd hx I2 (.cons rfl r) q2
/-- o.m() -/
theorem pe_meth0 {pl : Sem Bool} (he : PE X o ta) (c : Cls X.K C) (hm : Meth X.K C m f) (F : FnOk X.prog X.w X.K X.mg X.base CX k f fd ps sp) (hr : Room k X.A) (hb : Binds X.K fd ps ds) (hd : Vals dvs ds) (hx : Passes CX X E)
    (ht : eval (.Call (.Attribute o m apos) [] [] pos) X.env = (do
      let ov ← eval o X.env
      standAt apos.atName
      let (f, first) ← holding [ov] (getMethod ov m pl)
      callWith pos f first (backTo pos (starEach [] X.env)) (backToKw pos (keywordEach [] X.env))) := by rfl) :
    PE X (.Call (.Attribute o m apos) [] [] pos) (tMeth C m sp dvs E ta tNil) := by
  intro pins s σ H Q I h
  refine PySem.W.methodCall_KW (pl := pl) (thn (he pins s σ H _ I h) fun u s1 ⟨x, H1, I1, rx, a, dx, fs, ex, ea, l, q⟩ => ?_) ht
  subst ex
  obtain rfl : u = Value.ref a := rx
  refine getmeth_ok I1 ea c hm l ?_
  exact PySem.W.callWith_K0 (first := [.ref a]) I1.kIn hm.kp (run_fn (us := [.ref a]) (vs := [.ref a]) F hr hb hd hx I1 (.cons rfl .nil) q)

/-- what a class must have to be made -/
structure Mk (K : PySem.W.Frag) (C f : Addr) : Prop where
  makes : PySem.W.makesIn K C = true
  init : PySem.W.findIn K (.ref C) "__init__" = some (some (.ref f))
  fn : PySem.W.isFn K (.ref f) = true
  kp : PySem.W.keepIn K (.ref C) = true

theorem run_make {pins : List (Addr × Obj)} {σ : St} {H : Hp} {s : Shared} {Q : VK} {us : List Value} {vs : List V} (M : Mk X.K C f) (F : FnOk X.prog X.w X.K X.mg X.base CX k f fd ps sp) (hr : Room (k + 1) X.A) (hb : Binds X.K fd ps ds) (hd : Vals dvs ds)
    (hx : Passes CX X E) (I : Inv X pins σ H s) (r : Vals vs us)
    (h : ∀ x dx, H x = none → H dx = none → dx ≠ x → sp (.ref x :: (vs ++ dvs)) (upd (upd H dx (.own x)) x (.ins C dx [])) (fun v H2 => v = .non ∧ Q (.ref x) H2) E) :
    wpAny (model X.prog X.w) X.A (call (.ref C) us) (EP X pins σ Q) X.xe s := by
  have hq := h (s.heap.objs.size + 1) s.heap.objs.size (I.hok.fresh (Nat.le_succ _)) (I.hok.fresh (Nat.le_refl _)) (Nat.ne_of_lt (Nat.lt_succ_self _))
  have I2 := Inv.made (C := C) I
  have r2 : Vals (V.ref (s.heap.objs.size + 1) :: (vs ++ dvs)) (Value.ref (s.heap.objs.size + 1) :: (us ++ ds)) := .cons rfl (r.append hd)
  have hl : (Value.ref (s.heap.objs.size + 1) :: us ++ ds).length = ps.length := by
    have e := r2.length
    rw [F.len _ _ _ _ hq] at e
    exact e.symm
  refine wpAny_call (make_map (f := f) I.kIn M.makes M.init (beq_iff_eq.mp M.fn) (codeAny_mono (F.run _ X.stack _ _ ⟨Value.ref (s.heap.objs.size + 1) :: us, []⟩ (Value.ref (s.heap.objs.size + 1) :: (us ++ ds)) _ _ E (hr.make C us [])
    (I2.env0.make C us []) (hb _ (Value.ref (s.heap.objs.size + 1) :: us) I2.kIn hl) r2 hq) fun r s' hq' => ?_))
  cases r with
  | error e => exact hx pins σ _ _ e s' I2 hq'
  | ok fl =>
    cases fl with
    | ret u =>
      obtain ⟨v, H', I3, rv, ev, q3⟩ := I2.after hq'
      subst ev
      exact ⟨rv, ⟨V.ref (s.heap.objs.size + 1), H', I3, rfl, q3⟩⟩
    | next => exact False.elim hq'
    | brk => exact False.elim hq'
    | cont => exact False.elim hq'
theorem pe_make (M : Mk X.K C f) (F : FnOk X.prog X.w X.K X.mg X.base CX k f fd ps sp) (hr : Room (k + 1) X.A) (hg : Gl X x) (hm : X.mg x = some (.ref C)) (hb : Binds X.K fd ps ds) (hd : Vals dvs ds) (hx : Passes CX X E)
    (ha : PA X (e :: es) t) (hdb : (x == ("__debug__" : Str)) = false := by decide) (he : starEach (e :: es) X.env = (false, eval e X.env) :: starEach es X.env := by rfl) (hpl : (backTo pos (starEach es X.env)).any (·.1) = false := by rfl) :
    PE X (.Call (.Name x p) (e :: es) [] pos) (tMake C sp dvs E t) := by
  intro pins s σ H Q I h
  refine wpAny_Call_Name_kw (ld_glob I hg hm ?_ hdb)
  refine PySem.W.callWith_K (h₀ := X.base) I.ok.mod.kin M.kp (thn (ha pos pins s σ H _ I h) fun us s1 ⟨vs, H1, I1, r, q⟩ => ⟨I1.kIn, ?_⟩) he hpl
  exact run_make M F hr hb hd hx I1 r q
theorem pe_make0 (M : Mk X.K C f) (F : FnOk X.prog X.w X.K X.mg X.base CX k f fd ps sp) (hr : Room (k + 1) X.A) (hg : Gl X x) (hm : X.mg x = some (.ref C)) (hb : Binds X.K fd ps ds) (hd : Vals dvs ds) (hx : Passes CX X E)
    (hdb : (x == ("__debug__" : Str)) = false := by decide) : PE X (.Call (.Name x p) [] [] pos) (tMake C sp dvs E tNil) := by
  intro pins s σ H Q I h
  refine wpAny_Call_Name_kw (ld_glob I hg hm ?_ hdb)
  exact PySem.W.callWith_K0 I.kIn M.kp (run_make (us := []) M F hr hb hd hx I .nil h)
end

/-! ### keywords -/
/-- the values of the keywords, from the left -/
def PK (X : Cx) (kws : List Keyword) (t : TA) : Prop :=
  ∀ (pos : Pos) (pins : List (Addr × Obj)) (s : Shared) (σ : St) (H : Hp) (Q : List V → Hp → Prop), Inv X pins σ H s → t σ H Q → wpAny (model X.prog X.w) X.A (evalAll ((backToKw pos (keywordEach kws X.env)).map (·.2))) (AP X pins σ Q) X.xe s
section
variable {X : Cx} {CX : CXT} {k : Nat} {f C : Addr} {fd : FuncData} {ps ks : List Str} {sp : Sp} {E : XK} {x m : Str} {p pos apos kpos : Pos} {e o : Expr} {es : List Expr} {kws : List Keyword} {te ta : TE} {t tk : TA} {nm : Option Str}
theorem pk_nil : PK X [] tNil := fun _ _ _ _ H Q I h => wpAny_evalAll_nil ⟨[], H, I, .nil, h⟩
theorem pk_cons (ha : PE X e te) (hr : PK X kws t) : PK X (⟨nm, e, kpos⟩ :: kws) (tCons te t) := by
  intro pos pins s σ H Q I h
  show wpAny _ _ (evalAll ((do let v ← eval e X.env; standAt pos; pure v) :: (backToKw pos (keywordEach kws X.env)).map (·.2))) _ _ s
  refine wpAny_evalAll_cons (wpAny_bind (thn (ha pins s σ H _ I h) fun u s1 ⟨x, H1, I1, r1, q1⟩ => wpAny_bind (wpAny_standAt (wpAny_pure ?_))))
  exact thn (hr pos pins s1 σ H1 _ I1 q1) fun us s2 ⟨xs, H2, I2, r2, q2⟩ => ⟨x :: xs, H2, I2, .cons r1 r2, q2⟩

/-- how a call with keywords binds: g puts the positional values us and the keywords' values ws (names ks) in the parameters' order, defaults among them -/
structure KBinds (K : PySem.W.Frag) (fd : FuncData) (ps ks : List Str) (g : List Value → List Value → List Value) (gV : List V → List V → List V) : Prop where
  to : ∀ (s : Shared) (us ws : List Value), K.In s.heap → (g us ws).length = ps.length → BindsTo s fd ⟨us, ks.zip ws⟩ (ps.zip (g us ws))
  rel : ∀ {vs : List V} {us : List Value} {zs : List V} {ws : List Value}, Vals vs us → Vals zs ws → Vals (gV vs zs) (g us ws)
def tCallK (sp : Sp) (gV : List V → List V → List V) (E : XK) (t tk : TA) : TE := fun σ H Q => t σ H fun vs H1 => tk σ H1 fun zs H2 => sp (gV vs zs) H2 Q E
variable {g : List Value → List Value → List Value} {gV : List V → List V → List V}
theorem run_fnk {pins : List (Addr × Obj)} {σ : St} {H : Hp} {s : Shared} {Q : VK} {us ws : List Value} {vs zs : List V} (F : FnOk X.prog X.w X.K X.mg X.base CX k f fd ps sp) (hr : Room k X.A) (hb : KBinds X.K fd ps ks g gV) (hx : Passes CX X E)
    (I : Inv X pins σ H s) (r : Vals vs us) (rz : Vals zs ws) (h : sp (gV vs zs) H Q E) : wpAny (model X.prog X.w) X.A (call (.ref f) us (ks.zip ws)) (EP X pins σ Q) X.xe s := by
  have r2 := hb.rel r rz
  have hl : (g us ws).length = ps.length := by rw [← r2.length]; exact F.len _ _ _ _ h
  refine wpAny_call (codeAny_mono (F.run X.A X.stack s H ⟨us, ks.zip ws⟩ (g us ws) (gV vs zs) Q E hr I.env0 (hb.to s us ws I.kIn hl) r2 h) fun r s' hq => ?_)
  cases r with
  | error e => exact hx pins σ H s e s' I hq
  | ok fl =>
    cases fl with
    | ret u => exact I.after hq
    | next => exact False.elim hq
    | brk => exact False.elim hq
    | cont => exact False.elim hq
/-- f(e, .., k = v, ..) -/
theorem pe_callK (F : FnOk X.prog X.w X.K X.mg X.base CX k f fd ps sp) (hr : Room k X.A) (hg : Gl X x) (hm : X.mg x = some (.ref f)) (hk : PySem.W.keepIn X.K (.ref f) = true) (hb : KBinds X.K fd ps ks g gV) (hx : Passes CX X E)
    (ha : PA X (e :: es) t) (hkw : PK X kws tk) (hall : (backToKw pos (keywordEach kws X.env)).all (·.1.isSome) = true := by rfl) (hks : (backToKw pos (keywordEach kws X.env)).filterMap (·.1) = ks := by rfl)
    (hdb : (x == ("__debug__" : Str)) = false := by decide) (he : starEach (e :: es) X.env = (false, eval e X.env) :: starEach es X.env := by rfl)
    (hpl : ((backTo pos (starEach (e :: es) X.env)).any (·.1) || (backToKw pos (keywordEach kws X.env)).any (·.1.isNone)) = false := by rfl) :
    PE X (.Call (.Name x p) (e :: es) kws pos) (tCallK sp gV E t tk) := by
  intro pins s σ H Q I h
  refine wpAny_Call_Name_kw (ld_glob I hg hm ?_ hdb)
  refine PySem.W.callWith_KW (h₀ := X.base) I.ok.mod.kin hk hall (thn (ha pos pins s σ H _ I h) fun us s1 ⟨vs, H1, I1, r, q⟩ => ?_) hpl he
  refine thn (hkw pos pins s1 σ H1 _ I1 q) fun ws s2 ⟨zs, H2, I2, rz, q2⟩ => ⟨I2.kIn, ?_⟩
  rw [hks]
  exact run_fnk F hr hb hx I2 r rz q2
end

/-! ### a def's body keeps its promise -/
/-- names: the parameters first -/
structure FnScope (N P : List Str) (sc : Scope) : Prop where
  kind : sc.kind = .function
  co : sc.isCoroutine = false
  gen : sc.isGenerator = false
  nd : N.Nodup
  pre : N.take P.length = P
  par : ∀ x ∈ P, sc.names.lookup x = some .local ∨ sc.names.lookup x = some .cell
  nofree : ∀ y ∈ sc.names, y.2 ≠ .free

theorem bindL_out {kindOf : Str → Option NameKind} {x : Str} : ∀ {binds : List (Str × Value)} {m : Str → Option Value}, (∀ v, (x, v) ∉ binds) → bindL kindOf binds m x = m x
  | [], _, _ => rfl
  | (n, v) :: r, m, h => by
    unfold bindL
    rw [bindL_out fun w hw => h w (List.mem_cons_of_mem _ hw)]
    split
    · have : x ≠ n := by rintro rfl; exact h v List.mem_cons_self
      simp [this]
    · rfl
theorem bindC_out {kindOf : Str → Option NameKind} {x : Str} : ∀ {binds : List (Str × Value)} {m : Str → Option Value}, (∀ v, (x, v) ∉ binds) → bindC kindOf binds m x = m x
  | [], _, _ => rfl
  | (n, v) :: r, m, h => by
    unfold bindC
    rw [bindC_out fun w hw => h w (List.mem_cons_of_mem _ hw)]
    split
    · rfl
    · have : x ≠ n := by rintro rfl; exact h v List.mem_cons_self
      simp [this]
theorem bindL_get {kindOf : Str → Option NameKind} {x : Str} {v : Value} : ∀ {P : List Str} {vs : List Value} {i : Nat} {m : Str → Option Value}, P.Nodup → P[i]? = some x → vs[i]? = some v → kindOf x = some .local →
    bindL kindOf (P.zip vs) m x = some v
  | [], _, _, _, _, h, _, _ => by simp at h
  | _ :: _, [], _, _, _, _, h, _ => by simp at h
  | p :: P, w :: vs, 0, m, nd, h1, h2, hk => by
    simp at h1 h2; subst h1; subst h2
    show bindL kindOf ((p, w) :: P.zip vs) m p = _
    unfold bindL
    rw [bindL_out fun v hv => (List.nodup_cons.mp nd).1 (List.of_mem_zip hv).1, if_pos hk]
    simp
  | p :: P, w :: vs, i + 1, m, nd, h1, h2, hk => by
    show bindL kindOf ((p, w) :: P.zip vs) m x = _
    unfold bindL
    exact bindL_get (i := i) (List.nodup_cons.mp nd).2 (by simpa using h1) (by simpa using h2) hk
theorem bindC_get {kindOf : Str → Option NameKind} {x : Str} {v : Value} : ∀ {P : List Str} {vs : List Value} {i : Nat} {m : Str → Option Value}, P.Nodup → P[i]? = some x → vs[i]? = some v → kindOf x ≠ some .local →
    bindC kindOf (P.zip vs) m x = some v
  | [], _, _, _, _, h, _, _ => by simp at h
  | _ :: _, [], _, _, _, _, h, _ => by simp at h
  | p :: P, w :: vs, 0, m, nd, h1, h2, hk => by
    simp at h1 h2; subst h1; subst h2
    show bindC kindOf ((p, w) :: P.zip vs) m p = _
    unfold bindC
    rw [bindC_out fun v hv => (List.nodup_cons.mp nd).1 (List.of_mem_zip hv).1, if_neg hk]
    simp
  | p :: P, w :: vs, i + 1, m, nd, h1, h2, hk => by
    show bindC kindOf ((p, w) :: P.zip vs) m x = _
    unfold bindC
    exact bindC_get (i := i) (List.nodup_cons.mp nd).2 (by simpa using h1) (by simpa using h2) hk

/-- the names' values at the entry -/
def start (N : List Str) (vs : List V) : St := vs.map some ++ List.replicate (N.length - vs.length) none

/-- the context of a def's body, at its entry; an exception leaves the frame, then lies as CX says -/
def cxOf (CX : CXT) (P : Program) (w : World) (K : PySem.W.Frag) (mg : Str → Option Value) (base : Heap) (N : List Str) (qual : Str) (scope : Scope) (f : Addr) (cd : Value) (A : Around) (outer : List Env) (s : Shared) (H : Hp) (E : XK) : Cx where
  prog := P
  w := w
  K := K
  mg := mg
  base := base
  A := A.deeper (envOfC qual scope s.heap.objs.size f cd)
  N := N
  s₀ := s
  H₀ := H
  env := envOfC qual scope s.heap.objs.size f cd
  outer := outer
  stack := envOfC qual scope s.heap.objs.size f cd :: outer
  ex := []
  calm := true
  fn := fun _ => true
  pn := []
  xe := fun e s' => wpAny (model P w) (A.deeper (envOfC qual scope s.heap.objs.size f cd)) (leaving (envOfC qual scope s.heap.objs.size f cd) e) (fun _ s'' => CX outer H s E e s'') (fun e' s'' => CX outer H s E e' s'') s'

theorem cell_has {sc : Scope} {n : Nat} {x : Str} (h : sc.names.lookup x = some .cell) : ∃ c, (cellsFrom n sc.names []).lookup x = some c := by
  have q := PySem.W.cellsFrom_some sc.names n [] (.inl h)
  exact Option.isSome_iff_exists.mp q

theorem inv_start {CX : CXT} {P : Program} {w : World} {K : PySem.W.Frag} {mg : Str → Option Value} {base : Heap} {N ps : List Str} {qual : Str} {scope : Scope} {f : Addr} {cd : Value} {A : Around} {outer : List Env} {s s1 : Shared} {H : Hp} {E : XK} {us : List Value} {vs : List V}
    (S : FnScope N ps scope) (hd : A.handled = none) (e0 : Env0 P w K mg base A outer s H) (hl : vs.length = ps.length) (r : Vals vs us)
    (x : InCallC s s.heap.objs.size (bindL (envOfC qual scope s.heap.objs.size f cd).kindOf (ps.zip us) fun _ => none) (cellsFrom (s.heap.objs.size + 1) scope.names []) (bindC (envOfC qual scope s.heap.objs.size f cd).kindOf (ps.zip us) fun _ => none) s1) :
    Inv (cxOf CX P w K mg base N qual scope f cd A outer s H E) [] (start N vs) H s1 := by
  have hpl : ps.length ≤ N.length := by have := congrArg List.length S.pre; rw [List.length_take] at this; omega
  obtain ⟨h1, tk, rfl, hk⟩ := x.done
  have noA : ∀ b : Addr, b ∉ (cxOf CX P w K mg base N qual scope f cd A outer s H E).ex := fun b z => absurd (show b ∈ ([] : List Addr) from z) (by simp)
  refine ⟨⟨e0.mod, S.kind, rfl, rfl, Nat.le_refl _, fun y z c h1 h2 => ?_, fun y hy => ?_, fun y c _ h => ?_, fun _ => hd, Around.frames_deeper e0.frames, .inr ⟨rfl, rfl⟩, fun b z => absurd z (noA b), e0.bs, e0.bsz, fun b _ _ => noA b, fun b z => absurd z (noA b), e0.funs, e0.frf⟩,
    rfl, e0.bare, Un.kept hk, ⟨_, x.toInCall.ns, fun i y v h1 h2 h3 => ?_⟩, fun y c h => ⟨_, x.cell y c h⟩, e0.hok.fresh (Nat.le_refl _), fun y c h => ?_, fun p hp => absurd (show p ∈ ([] : List (Addr × Obj)) from hp) (by simp), e0.hok.kept hk, ?_⟩
  · exact name_of_addr x.apart (PySem.mem_of_lookup h1) (PySem.mem_of_lookup h2)
  · have hy : scope.names.lookup y = some .cell ∨ scope.names.lookup y = some .free := hy
    rcases hy with hy | hy
    · exact cell_has hy
    · exact absurd rfl (S.nofree _ (PySem.mem_of_lookup hy))
  · exact Nat.le_of_lt (x.above y c (PySem.mem_of_lookup h))
  · have hi : i < vs.length := by
      unfold start at h2
      by_cases hi : i < vs.length
      · exact hi
      · rw [List.getElem?_append_right (by simpa using hi)] at h2
        rw [List.getElem?_replicate] at h2
        split at h2 <;> cases h2
    have ha : vs[i]? = some v := by
      unfold start at h2
      rw [List.getElem?_append_left (by simpa using hi), List.getElem?_map] at h2
      cases e : vs[i]? with
      | none => rw [e] at h2; cases h2
      | some a => rw [e] at h2; cases h2; rfl
    obtain ⟨u, hu, rv⟩ := r.get ha
    have hp : ps[i]? = some y := by
      rw [← S.pre, List.getElem?_take_of_lt (by omega)]; exact h1
    have ndP : ps.Nodup := by rw [← S.pre]; exact S.nd.sublist (List.take_sublist _ _)
    refine ⟨u, rv, ?_⟩
    rcases S.par y (List.mem_of_getElem? hp) with k | k
    · exact .inl ⟨k, bindL_get ndP hp hu k⟩
    · obtain ⟨c, e⟩ := cell_has (n := s.heap.objs.size + 1) k
      refine .inr ⟨.inl k, c, e, ?_⟩
      have q := x.cell y c e
      rw [bindC_get ndP hp hu (by show scope.names.lookup y ≠ _; rw [k]; decide)] at q
      exact q
  · exact e0.hok.fresh (Nat.le_of_lt (x.above y c (PySem.mem_of_lookup h)))
  · unfold start
    show _ = N.length
    rw [List.length_append, List.length_map, List.length_replicate]
    omega

/-- THE RULE: a def (or a method) of the text, by its body. The body's reading t is chosen for each entry; it is run at the parameters' values -/
theorem fn_of {CX : CXT} {P : Program} {w : World} {K : PySem.W.Frag} {mg : Str → Option Value} {base : Heap} {k : Nat} {f : Addr} {name qual : Str} {params : Arguments} {body : List Stmt} {scope : Scope} {dV kV doc pm cdv ct oc : Value} {an od : Option Addr}
    {osl : Array (Option Value)} {N ps : List Str} {sp : Sp} (lk : K.lookup f = some ⟨oc, od, .func (PySem.W.fnOf name qual params body scope dV kV doc pm an cdv ct), osl⟩) (hcd : PySem.W.codeIn K cdv qual = true) (S : FnScope N ps scope)
    (len : ∀ vs H Q E, sp vs H Q E → vs.length = ps.length)
    (hbody : ∀ (A : Around) (outer : List Env) (s : Shared) (H : Hp) (vs : List V) (Q : VK) (E : XK), Room k (A.deeper (envOfC qual scope s.heap.objs.size f cdv)) → sp vs H Q E →
      ∃ t, PSs (cxOf CX P w K mg base N qual scope f cdv A outer s H E) body t ∧ t { nx := fun _ H' => Q .non H', rt := Q } (start N vs) H) :
    FnOk P w K mg base CX (k + 1) f (PySem.W.fnOf name qual params body scope dV kV doc pm an cdv ct) ps sp := by
  refine ⟨len, fun A outer s H args us vs Q E hr e0 hb r hsp => ?_⟩
  have hl := len _ _ _ _ hsp
  have KX : K.In s.heap := e0.mod.kin.keeps fun b o e => (e0.bs b o e).1
  have lim : s.heap.NoLimit := e0.mod.nolimit.keeps fun b o e => (e0.bs b o e).1
  have hkind : ∀ y ∈ ps.zip us, scope.names.lookup y.1 = some .local ∨ (scope.names.lookup y.1 = some .cell ∧ ((cellsFrom (s.heap.objs.size + 1) scope.names []).lookup y.1).isSome = true) := fun ⟨n, v⟩ hy => by
    rcases S.par n (List.of_mem_zip hy).1 with q | q
    · exact .inl q
    · exact .inr ⟨q, PySem.W.cellsFrom_some _ _ _ (.inl q)⟩
  refine codeAny_call_function hr.depth (KX _ _ lk) rfl S.co S.gen rfl (PySem.W.codeRec_of KX hcd) (hb _ _ _ _ ?_)
  refine wpAny_newFunctionEnv_cells S.kind hkind fun env he s1 x => ?_
  subst he
  refine ⟨lim.keeps x.toInCall.keep, codeAny_func ?_⟩
  obtain ⟨t, ht, hq⟩ := hbody A outer s H vs Q E (hr.deeper _) hsp
  have I : Inv (cxOf CX P w K mg base N qual scope f cdv A outer s H E) [] (start N vs) H s1 := inv_start S hr.hd e0 hl r x
  refine wpAny_mono (ht [] s1 (start N vs) H _ I hq) (fun fl s' hs => ?_) fun e s' hs => hs
  have fin : ∀ {σ' : St} {H' : Hp} {v : V} {u : Value}, Inv (cxOf CX P w K mg base N qual scope f cdv A outer s H E) [] σ' H' s' → RelV v u → Q v H' → CE outer P w H s Q u s' :=
    fun {σ' H' v u} J rv q => ⟨v, H', J.os, J.bare, J.base, J.hok, rv, q⟩
  cases fl with
  | ret u =>
    obtain ⟨v, σ', H', J, rv, q⟩ := hs
    exact fin J rv q
  | next =>
    obtain ⟨σ', H', J, q⟩ := hs
    exact fin (v := V.non) (u := Value.none) J rfl q
  | brk =>
    obtain ⟨_, _, _, q⟩ := hs
    exact False.elim q
  | cont =>
    obtain ⟨_, _, _, q⟩ := hs
    exact False.elim q
end L2

namespace L2
open PySem PySem.Spec PyProof.Rows
section
variable {X : Cx} {x : Str} {p pos : Pos} {e : Expr} {es : List Expr} {t : TA} {id T : String} {r : List V → Hp → VK → Prop}

def tCB (r : List V → Hp → VK → Prop) (t : TA) : TE := fun σ H Q => t σ H fun vs H1 => r vs H1 Q
/-- f(e, ..), f a built-in function -/
theorem pe_callB (hc : CallR X (.builtin id) r) (hg : Gl X x) (hm : X.mg x = none) (hv : bootBuiltins x = some (.builtin id)) (ha : PA X (e :: es) t) (hn : x ≠ "__name__" := by decide) (hdb : (x == ("__debug__" : Str)) = false := by decide)
    (he : starEach (e :: es) X.env = (false, eval e X.env) :: starEach es X.env := by rfl) (hpl : (backTo pos (starEach es X.env)).any (·.1) = false := by rfl) : PE X (.Call (.Name x p) (e :: es) [] pos) (tCB r t) := by
  intro pins s σ H Q I h
  refine wpAny_Call_Name_kw (ld_blt I hg hm hv ?_ hn hdb)
  exact PyProof.Rows.callWith_builtin1 (thn (ha pos pins s σ H _ I h) fun us s1 ⟨vs, H1, I1, r1, q1⟩ => hc pins s1 σ H1 vs us Q I1 r1 q1) he hpl
/-- T(e, ..), T a built-in type -/
theorem pe_callTy (hc : CallR X (.type T) r) (hg : Gl X x) (hm : X.mg x = none) (hv : bootBuiltins x = some (.type T)) (ha : PA X (e :: es) t) (hn : x ≠ "__name__" := by decide) (hdb : (x == ("__debug__" : Str)) = false := by decide)
    (he : starEach (e :: es) X.env = (false, eval e X.env) :: starEach es X.env := by rfl) (hpl : (backTo pos (starEach es X.env)).any (·.1) = false := by rfl) : PE X (.Call (.Name x p) (e :: es) [] pos) (tCB r t) := by
  intro pins s σ H Q I h
  refine wpAny_Call_Name_kw (ld_blt I hg hm hv ?_ hn hdb)
  exact PyProof.Rows.callWith_type1 (thn (ha pos pins s σ H _ I h) fun us s1 ⟨vs, H1, I1, r1, q1⟩ => hc pins s1 σ H1 vs us Q I1 r1 q1) he hpl
/-- T() -/
theorem pe_callTy0 (hc : CallR X (.type T) r) (hg : Gl X x) (hm : X.mg x = none) (hv : bootBuiltins x = some (.type T)) (hn : x ≠ "__name__" := by decide) (hdb : (x == ("__debug__" : Str)) = false := by decide) :
    PE X (.Call (.Name x p) [] [] pos) (tCB r tNil) := by
  intro pins s σ H Q I h
  refine wpAny_Call_Name_kw (ld_blt I hg hm hv ?_ hn hdb)
  exact PyProof.Rows.callWith_type0 (hc pins s σ H [] [] Q I .nil h)
end
end L2

namespace HT
open PySem PyProof.Rows

/-- t < u of tuples of ints -/
def lexLt : List Int → List Int → Bool
  | [], [] => false
  | [], _ :: _ => true
  | _ :: _, [] => false
  | x :: xs, y :: ys => if x = y then lexLt xs ys else decide (x < y)
theorem lexLt_cons (x y : Int) (xs ys : List Int) : lexLt (x :: xs) (y :: ys) = if x = y then lexLt xs ys else decide (x < y) := rfl
theorem lexLt_nil_nil : lexLt [] [] = false := rfl
theorem lexLt_nil_cons (y : Int) (ys : List Int) : lexLt [] (y :: ys) = true := rfl
theorem lexLt_cons_nil (x : Int) (xs : List Int) : lexLt (x :: xs) [] = false := rfl

theorem eqAt_int (A : Around) (s : Shared) (a : Int) (t : Tok) (c : Int) (u : Tok) : ∃ e, SeqAt.EqAt A s (.int a t) (.int c u) e ∧ (e = true ↔ a = c) :=
  ⟨(a == c), SeqAt.EqAt.int_int a t c u, by simp⟩
theorem rcLt_int (A : Around) (s : Shared) (a : Int) (t : Tok) (c : Int) (u : Tok) (prog : Program) (w : World) (E : Value → Shared → Prop) (Q : Value → Shared → Prop) (h : Q (.bool (decide (a < c))) s) :
    wpAny (model prog w) A (richCompare .Lt (.int a t) (.int c u)) Q E s :=
  (PyProof.Rows.lt_int h : wpAny (model prog w) A (compareOp .Lt (.int a t) (.int c u)) Q E s)

section
open PySem.SeqAt
open PySem.AutoSeq1 (wpAny_loadPart')
open PySem.MeetsSeq PySem.MeetsSeq2 PySem.MeetsSeq3

theorem tuple_lt_ints (l b : Addr) (items items2 : Array Value) (n n2 : Nat) (dd dd2 : Option Addr) (sl sl2 : Array (Option Value)) (ns ms : List Int) (hi : IntsAre items.toList ns) (hj : IntsAre items2.toList ms) :
    Meets (Builtin.«tuple.__lt__» ⟨[.ref l, .ref b], []⟩)
      (fun _ R s => s.heap.get? l = some { cls := .type "tuple", dict := dd, data := .seq items n, slots := sl } ∧ s.heap.get? b = some { cls := .type "tuple", dict := dd2, data := .seq items2 n2, slots := sl2 } ∧
        R (.ok (.ret (.bool (lexLt ns ms)))) s) :=
  .of_wp fun prog w A R s h => by
    obtain ⟨hp, g, d, tk, os⟩ := s; obtain ⟨hl, hb, h⟩ := h
    have f2 := AutoSeq1.sub_tuple_tuple
    have z1 : items.size = ns.length := by rw [← hi.length]; simp
    have z2 : items2.size = ms.length := by rw [← hj.length]; simp
    wp_walk using wpAny_loadPart' hl, wpAny_loadPart' hb, wpAny_forIn_list _ (fun rest b s' => b.1 = none ∧ s' = ⟨hp, g, d, tk, os⟩ ∧ ∃ (vs ws : List Value) (ns' ms' : List Int), rest = vs.zip ws ∧
      IntsAre vs ns' ∧ IntsAre ws ms' ∧ ns'.length + items2.size = ms'.length + items.size ∧ R (.ok (.ret (.bool (lexLt ns' ms')))) ⟨hp, g, d, tk, os⟩) _
    case turn =>
      rintro ⟨y, x⟩ rest b s' ⟨hb', rfl, vs, ws, ns', ms', hz, hvi, hwi, hlen, hR⟩
      cases hvi with
      | nil => rw [List.zip_nil_left] at hz; cases hz
      | cons a t hvi' =>
        cases hwi with
        | nil => rw [List.zip_nil_right] at hz; cases hz
        | cons c u hwi' =>
          rw [List.zip_cons_cons] at hz
          injection hz with hyx hrest
          injection hyx with hy hx
          subst hy hx
          rw [lexLt_cons] at hR
          simp only [List.length_cons] at hlen
          obtain ⟨e, he, hiff⟩ := eqAt_int A.in1 ⟨hp, g, d, tk, os⟩ a t c u
          refine wpAny_bind (he prog w _ _ ?_)
          cases e with
          | true =>
            rw [if_pos (hiff.mp rfl)] at hR
            wp_walk
            exact ⟨rfl, rfl, _, _, _, _, hrest, hvi', hwi', by omega, hR⟩
          | false =>
            rw [if_neg (fun q => absurd (hiff.mpr q) Bool.false_ne_true)] at hR
            have hri := rcLt_int A.in1 ⟨hp, g, d, tk, os⟩ a t c u prog w
            wp_walk using hri
            exact ⟨_, rfl, by simpa using hR⟩
    case fin =>
      rintro ⟨b1, b2⟩ s' ⟨hb', rfl, vs, ws, ns', ms', hz, hvi, hwi, hlen, hR⟩
      simp only at hb'
      subst hb'
      have hv : lexLt ns' ms' = decide (items.size < items2.size) := by
        cases hvi with
        | nil =>
          cases hwi with
          | nil =>
            simp only [List.length_nil] at hlen
            rw [lexLt_nil_nil]
            exact (decide_eq_false (by omega)).symm
          | cons c u hw =>
            simp only [List.length_nil, List.length_cons] at hlen
            rw [lexLt_nil_cons]
            exact (decide_eq_true (by omega)).symm
        | cons a t hv =>
          cases hwi with
          | nil =>
            simp only [List.length_nil, List.length_cons] at hlen
            rw [lexLt_cons_nil]
            exact (decide_eq_false (by omega)).symm
          | cons c u hw =>
            rw [List.zip_cons_cons] at hz
            cases hz
      rw [hv] at hR
      wp_walk
      exact ⟨_, rfl, by simpa [Builtin.Tuple.tupleCompareSizes] using hR⟩
    case h =>
      exact ⟨rfl, rfl, items.toList, items2.toList, ns, ms, rfl, hi, hj, by omega, h⟩
end

section
variable {prog : Program} {w : World} {A : Around} {E : Value → Shared → Prop} {s : Shared}

theorem lt_tupInts {l b : Addr} {items items2 : Array Value} {ns ms : List Int} {Q : Value → Shared → Prop} (hl : IsTup s.heap l items) (hb : IsTup s.heap b items2) (hi : IntsAre items.toList ns) (hj : IntsAre items2.toList ms)
    (hu : A.units < cLine) (h : Q (.bool (lexLt ns ms)) s) : wpAny (model prog w) A (compareOp .Lt (.ref l) (.ref b)) Q E s := by
  obtain ⟨⟨cls, dd, data, sl⟩, ho, hc, n, hd⟩ := id hl
  obtain ⟨⟨cls2, dd2, data2, sl2⟩, ho2, hc2, n2, hd2⟩ := id hb
  simp only at hc hd hc2 hd2
  subst hc hd hc2 hd2
  exact richCompare_meets_room (op := .Lt) ⟨_, ho, rfl⟩ ⟨_, ho2, rfl⟩ PySem.F.slot_tuple_lt PySem.F.entry_tuple_lt (PySem.F.args_tuple_lt_2 _ _) (tuple_lt_ints l b items items2 n n2 dd dd2 sl sl2 ns ms hi hj)
    ⟨ho, ho2, show Value.bool (lexLt ns ms) ≠ Value.notImplemented ∧ Q (.bool (lexLt ns ms)) s from ⟨(fun x => nomatch x), h⟩⟩ hu

/-- t + u, t not empty -/
theorem cat_tup {t b : Addr} {vs ws : List Value} {Q : Value → Shared → Prop} (ht : IsTup s.heap t vs.toArray) (hb : IsTup s.heap b ws.toArray) (hv : vs ≠ [])
    (h1 : ws = [] → Q (.ref t) s) (h2 : ws ≠ [] → Q (.ref s.heap.objs.size) { s with heap := s.heap.push { cls := .type "tuple", data := .seq (vs ++ ws).toArray } })
    (hsz : vs.length + ws.length ≤ sizeLine) : wpAny (model prog w) A (binaryOp .Add (.ref t) (.ref b)) Q E s := by
  obtain ⟨⟨cls, dd, data, sl⟩, ho, hc, n, hd⟩ := id ht
  obtain ⟨⟨cls2, dd2, data2, sl2⟩, ho2, hc2, n2, hd2⟩ := id hb
  simp only at hc hd hc2 hd2
  subst hc hd hc2 hd2
  have e : vs.toArray ++ ws.toArray = (vs ++ ws).toArray := by simp
  by_cases hw : ws = []
  · exact concat_meets ⟨_, ho, rfl⟩ ⟨_, ho2, rfl⟩ noFill_tuple_add seq_tuple_add PySem.F.slot_tuple_add PySem.F.entry_tuple_add (PySem.F.args_tuple_add_2 _ _)
      (tuple_addW1 t b vs.toArray ws.toArray n n2 dd dd2 sl sl2 (by simpa using hv) (by simp [hw])) ⟨ho, ho2, h1 hw⟩
  · refine concat_meets ⟨_, ho, rfl⟩ ⟨_, ho2, rfl⟩ noFill_tuple_add seq_tuple_add PySem.F.slot_tuple_add PySem.F.entry_tuple_add (PySem.F.args_tuple_add_2 _ _)
      (tuple_addW2 t b vs.toArray ws.toArray n n2 dd dd2 sl sl2 (by simpa using hv) (by simpa using hw) (by rw [List.size_toArray, List.size_toArray]; exact hsz)) ⟨ho, ho2, ?_⟩
    rw [e]
    exact h2 hw

/-! ### t[a:b], not the whole -/
/-- a slice's bound as a place among n (d where it is left out) -/
def sIx (n d : Nat) : Option Int → Nat
  | none => d
  | some v => if v < 0 then (v + (n : Int)).toNat else min v.toNat n
theorem sIx_none (n d : Nat) : sIx n d none = d := rfl
theorem sIx_nat (n d k : Nat) : sIx n d (some (k : Int)) = min k n := by
  show (if (k : Int) < 0 then ((k : Int) + (n : Int)).toNat else min (k : Int).toNat n) = min k n
  rw [if_neg (by omega), Int.toNat_natCast]
theorem sIx_le (n d : Nat) (hd : d ≤ n) (o : Option Int) : sIx n d o ≤ n := by
  cases o with
  | none => exact hd
  | some v =>
    show (if v < 0 then (v + (n : Int)).toNat else min v.toNat n) ≤ n
    by_cases hv : v < 0
    · rw [if_pos hv]; omega
    · rw [if_neg hv]; exact Nat.min_le_right _ _
theorem clip_eq (v : Int) (n d : Nat) : (if v < 0 then max (v + (n : Int)) 0 else min v (n : Int)) = ((sIx n d (some v) : Nat) : Int) := by
  show (if v < 0 then max (v + (n : Int)) 0 else min v (n : Int)) = (((if v < 0 then (v + (n : Int)).toNat else min v.toNat n) : Nat) : Int)
  by_cases hv : v < 0
  · simp only [if_pos hv]; omega
  · simp only [if_neg hv]; omega
theorem adjust_gen (lo hi : Option Int) (n : Nat) : Builtin.Slice.sliceAdjust lo hi 1 (n : Int) = (((sIx n 0 lo : Nat) : Int), ((sIx n n hi : Nat) : Int)) := by
  have h1 : ¬ ((1 : Int) < 0) := by omega
  unfold Builtin.Slice.sliceAdjust
  simp only [h1, if_false]
  refine Prod.ext ?_ ?_
  · cases lo with
    | none => rfl
    | some v => exact clip_eq v n 0
  · cases hi with
    | none => rfl
    | some v => exact clip_eq v n n
theorem places_gen (i j : Nat) : Builtin.Slice.slicePlaces (i : Int) (j : Int) 1 = j - i := by
  unfold Builtin.Slice.slicePlaces
  have h1 : (1 : Int) > 0 := by omega
  simp only [h1, if_true, Int.ediv_one]
  split <;> omega
theorem slicePart_ {v : Value} {o : Option Int} {Q : Option Int → Shared → Prop} (p : IsPart v o) (h : Q o s) : wpAny (model prog w) A (Builtin.Slice.slicePartIndex v) Q E s := by
  cases p with
  | none => exact slicePart_none h
  | int i t => exact slicePart_int h
theorem sliceApplied_gen {sl : Addr} {vl vu : Value} {lo hi : Option Int} {n : Nat} {Q : Int × Int × Nat → Shared → Prop} (hs : s.heap.IsSliceOf sl vl vu .none) (pl : IsPart vl lo) (pu : IsPart vu hi)
    (h : Q (((sIx n 0 lo : Nat) : Int), 1, sIx n n hi - sIx n 0 lo) s) : wpAny (model prog w) A (Builtin.Slice.sliceApplied (.ref sl) (pure (n : Int))) Q E s := by
  obtain ⟨os, hos, hcs, hds⟩ := id hs
  unfold Builtin.Slice.sliceApplied Builtin.Slice.sliceFields
  refine wpAny_bind (wpAny_bind (wpAny_field hos hds (x := vl) rfl (wpAny_bind (wpAny_field hos hds (x := vu) rfl (wpAny_bind (wpAny_field hos hds (x := .none) rfl (wpAny_pure ?_)))))))
  refine wpAny_bind (slicePart_none ?_)
  show wpAny _ _ (if ((1 : Int) == 0) = true then _ else _) _ _ s
  rw [if_neg (by decide)]
  refine wpAny_bind (slicePart_ pl (wpAny_bind (slicePart_ pu (wpAny_bind (wpAny_pure ?_)))))
  show wpAny _ _ (match Builtin.Slice.sliceAdjust lo hi 1 (n : Int) with | (lo, hi) => pure (lo, (1 : Int), Builtin.Slice.slicePlaces lo hi 1)) _ _ s
  rw [adjust_gen lo hi n]
  show wpAny _ _ (pure (((sIx n 0 lo : Nat) : Int), (1 : Int), Builtin.Slice.slicePlaces ((sIx n 0 lo : Nat) : Int) ((sIx n n hi : Nat) : Int) 1)) _ _ s
  rw [places_gen]
  exact wpAny_pure h
theorem pick_gen (xs : Array Value) (i k : Nat) : ((List.range k).filterMap fun (m : Nat) => xs[((i : Int) + (m : Int) * 1).toNat]?).toArray = ((xs.toList.drop i).take k).toArray := by
  have e : (fun (m : Nat) => xs[((i : Int) + (m : Int) * 1).toNat]?) = fun m => xs[i + m]? := by
    funext m
    have : ((i : Int) + (m : Int) * 1).toNat = i + m := by omega
    rw [this]
  rw [e]
  have := pick_run xs i k
  rw [List.filterMap_map] at this
  have e2 : ((fun x => xs[x]?) ∘ fun x => i + x) = fun m => xs[i + m]? := rfl
  rw [e2] at this
  rw [this]

theorem getItem_tuple_cut {t sl : Addr} {items : Array Value} {vl vu : Value} {lo hi : Option Int} {Q : Value → Shared → Prop} (ht : IsTup s.heap t items) (hs : s.heap.IsSliceOf sl vl vu .none) (pl : IsPart vl lo) (pu : IsPart vu hi)
    (hw : ¬ (sIx items.size 0 lo = 0 ∧ sIx items.size items.size hi = items.size))
    (h : Q (.ref s.heap.objs.size) { s with heap := s.heap.push { cls := .type "tuple", data := .seq ((items.toList.drop (sIx items.size 0 lo)).take (sIx items.size items.size hi - sIx items.size 0 lo)).toArray } })
    (hsz : items.size ≤ sizeLine) : wpAny (model prog w) A (getItem (.ref t) (.ref sl)) Q E s := by
  have htake : sizeOk (.seq ((items.toList.drop (sIx items.size 0 lo)).take (sIx items.size items.size hi - sIx items.size 0 lo)).toArray) := by
    show ((items.toList.drop (sIx items.size 0 lo)).take (sIx items.size items.size hi - sIx items.size 0 lo)).toArray.size ≤ sizeLine
    rw [List.size_toArray, List.length_take, List.length_drop, Array.length_toList]
    omega
  have hj : sIx items.size items.size hi ≤ items.size := sIx_le _ _ (Nat.le_refl _) hi
  obtain ⟨os, hos, hcs, hds⟩ := id hs
  have hTs : s.TypeIs (.ref sl) "slice" := ⟨os, hos, hcs⟩
  unfold getItem
  try with_reducible refine wpAny_holding ?_
  first | refine wpAny_bind (wpAny_pure ?_) | skip
  refine wpAny_bind (wpAny_sequenceKey ht.typeIs (by decide) ?_)
  refine wpAny_bind (wpAny_callSpecial?_slot (name := Str.ofString "__getitem__") ht.typeIs PyProof.Rows.slot_tuple_getitem
    (wpAny_call_entry PyProof.Rows.slot_tuple_getitem ht.typeIs entry_tuple_getitem ?_ (args_tuple_getitem _ _)))
  show wpAny _ _ (Builtin.Tuple.tupleItemsOf (.ref t) >>= _) _ _ s
  refine wpAny_bind (tupleItemsOf_ ht ?_)
  refine wpAny_bind (wpAny_typeOf hTs ?_)
  rw [if_pos (by decide)]
  refine wpAny_bind (sliceApplied_gen hs pl pu ?_)
  have hno : ¬ ((((sIx items.size 0 lo : Nat) : Int) == 0 && (1 : Int) == 1 && (sIx items.size items.size hi - sIx items.size 0 lo) == items.size) = true) := by
    intro q
    rw [Bool.and_eq_true, Bool.and_eq_true] at q
    have q1 : ((sIx items.size 0 lo : Nat) : Int) = 0 := eq_of_beq q.1.1
    have q2 : sIx items.size items.size hi - sIx items.size 0 lo = items.size := eq_of_beq q.2
    exact hw ⟨by omega, by omega⟩
  show wpAny _ _ (if (((sIx items.size 0 lo : Nat) : Int) == 0 && (1 : Int) == 1 && (sIx items.size items.size hi - sIx items.size 0 lo) == items.size) = true then _ else _) _ _ s
  rw [if_neg hno, pick_gen]
  first
    | exact wpAny_bind (m := Builtin.Tuple.tupleExact _) (wpAny_newObj_type (wpAny_pure ⟨_, rfl, wpAny_pure h⟩) htake)
    | exact wpAny_bind (m := Builtin.Tuple.tupleExact _) (wpAny_newObj_type (wpAny_bind (wpAny_pure (wpAny_pure ⟨_, rfl, wpAny_pure h⟩))) htake)
    | exact wpAny_bind (wpAny_bind (m := Builtin.Tuple.tupleExact _) (wpAny_newObj_type (wpAny_pure (wpAny_pure ⟨_, rfl, wpAny_pure h⟩)) htake))
    | exact wpAny_bind (wpAny_bind (m := Builtin.Tuple.tupleExact _) (wpAny_newObj_type (wpAny_pure ⟨_, rfl, wpAny_pure h⟩) htake))
end
end HT

namespace L2
open PySem PySem.Spec PyProof.Rows

/-! ### the parts of a slice -/
abbrev TO := St → Hp → (Option Int → Hp → Prop) → Prop
/-- a slice's part (left out, or an int) -/
def PO (X : Cx) (e : Option Expr) (t : TO) : Prop :=
  ∀ (pins : List (Addr × Obj)) (s : Shared) (σ : St) (H : Hp) (Q : Option Int → Hp → Prop), Inv X pins σ H s → t σ H Q →
    wpAny (model X.prog X.w) X.A (evalPart e X.env) (fun u s' => ∃ o H', Inv X pins σ H' s' ∧ IsPart u o ∧ Q o H') X.xe s
def tNoPart : TO := fun _ H Q => Q none H
def tPart (t : TE) : TO := fun σ H Q => t σ H fun x H1 => ∃ i, x = .int i ∧ Q (some i) H1

theorem intsAre_of {ns : List Int} : ∀ {us : List Value}, Vals (ns.map V.int) us → IntsAre us ns := by
  induction ns with
  | nil => intro us r; rw [List.map_nil] at r; cases r; exact .nil
  | cons n ns ih =>
    intro us r
    rw [List.map_cons] at r
    cases r with
    | cons r1 r2 =>
      obtain ⟨t, e⟩ := r1
      subst e
      exact .cons n t (ih r2)

section
variable {X : Cx} {e : Expr} {te : TE} {lo hi : Option Expr} {tl th : TO} {pos p2 : Pos}

theorem po_none : PO X none tNoPart := by
  intro pins s σ H Q I h
  rw [evalPart_none]
  exact wpAny_pure ⟨none, H, I, .none, h⟩
theorem po_some (h : PE X e te) : PO X (some e) (tPart te) := by
  intro pins s σ H Q I hw
  rw [evalPart_some]
  refine thn (h pins s σ H _ I hw) fun u s1 ⟨x, H1, I1, r1, q1⟩ => ?_
  obtain ⟨i, rfl, q⟩ := q1
  obtain ⟨t, rfl⟩ := r1
  exact ⟨some i, H1, I1, .int i t, q⟩

/-- what a slice of a value is, by values: the slice object stands at sl -/
def SlR (X : Cx) (r : V → Option Int → Option Int → Hp → VK → Prop) : Prop :=
  ∀ (pins : List (Addr × Obj)) (s : Shared) (σ : St) (H : Hp) (x : V) (v vl vu : Value) (lo hi : Option Int) (sl : Addr) (Q : VK), Inv X pins σ H s → RelV x v → s.heap.IsSliceOf sl vl vu .none → IsPart vl lo → IsPart vu hi → r x lo hi H Q →
    ∃ T id, typeLookup (.type T) "__getitem__" = pure (some (.builtin id)) ∧ s.TypeIs v T ∧ wpAny (model X.prog X.w) X.A (getItem v (.ref sl)) (EP X pins σ Q) X.xe s
theorem SlR.or {r r' : V → Option Int → Option Int → Hp → VK → Prop} (h : SlR X r) (h' : SlR X r') : SlR X (fun x lo hi H Q => r x lo hi H Q ∨ r' x lo hi H Q) := by
  intro pins s σ H x v vl vu lo hi sl Q I rx hs pl pu q
  rcases q with q | q
  · exact h pins s σ H x v vl vu lo hi sl Q I rx hs pl pu q
  · exact h' pins s σ H x v vl vu lo hi sl Q I rx hs pl pu q
def tSl (r : V → Option Int → Option Int → Hp → VK → Prop) (te : TE) (tl th : TO) : TE := fun σ H Q => te σ H fun x H1 => tl σ H1 fun l H2 => th σ H2 fun u H3 => r x l u H3 Q
/-- a[lo:hi], any a -/
theorem pe_slice {r : V → Option Int → Option Int → Hp → VK → Prop} (hr : SlR X r) (he : PE X e te) (hl : PO X lo tl) (hu : PO X hi th) : PE X (.Subscript e (.Slice lo hi none p2) pos) (tSl r te tl th) := by
  intro pins s σ H Q I h
  refine Subscript_ (thn (he pins s σ H _ I h) fun v s1 ⟨x, H1, I1, r1, q1⟩ => ?_)
  refine wpAny_Slice (thn (hl pins s1 σ H1 _ I1 q1) fun vl s2 ⟨l, H2, I2, pl, q2⟩ => thn (hu pins s2 σ H2 _ I2 q2) fun vu s3 ⟨u, H3, I3, pu, q3⟩ => ?_)
  rw [evalPart_none]
  refine wpAny_pure ?_
  have I4 : Inv X pins σ H3 { s3 with heap := s3.heap.push { cls := .type "slice", data := .fields #[vl, vu, .none] } } := I3.kept (t' := s3.toks) fun b ob q => Heap.get?_push_of_some _ q
  obtain ⟨T, id, hT, ht, hg⟩ := hr pins { s3 with heap := s3.heap.push { cls := .type "slice", data := .fields #[vl, vu, .none] } } σ H3 x v vl vu l u s3.heap.objs.size Q I4 r1 (Heap.IsSliceOf.new ..) pl pu q3
  show wpAny (model X.prog X.w) X.A (subscriptTail e (.Slice lo hi none p2) v (.ref s3.heap.objs.size)) (EP X pins σ Q) X.xe { s3 with heap := s3.heap.push { cls := .type "slice", data := .fields #[vl, vu, .none] } }
  exact tail_any (ops := [.ref s3.heap.objs.size, v]) ht hT hg (by with_unfolding_all rfl)

/-- the items of xs[lo:hi] -/
def cutV (xs : List V) (lo hi : Option Int) : List V := (xs.drop (HT.sIx xs.length 0 lo)).take (HT.sIx xs.length xs.length hi - HT.sIx xs.length 0 lo)
theorem cutV_length (xs : List V) (lo hi : Option Int) : (cutV xs lo hi).length ≤ xs.length := by
  unfold cutV
  rw [List.length_take, List.length_drop]
  omega
/-- t[lo:hi], not the whole of it (the whole would be t itself) -/
def rSlT (K : PySem.W.Frag) : V → Option Int → Option Int → Hp → VK → Prop := fun x lo hi H Q => ∃ a xs, x = .ref a ∧ SqT K H a xs ∧
  ¬ (HT.sIx xs.length 0 lo = 0 ∧ HT.sIx xs.length xs.length hi = xs.length) ∧ ∀ p, H p = none → Q (.ref p) (upd H p (.tup (cutV xs lo hi)))
theorem sl_tup : SlR X (rSlT X.K) := by
  intro pins s σ H x v vl vu lo hi sl Q I rx hs pl pu h
  obtain ⟨a, xs, rfl, hx, hw, q⟩ := h
  cases rx
  obtain ⟨its, r, ht, hz⟩ := I.tuple hx
  have hlen : its.toArray.size = xs.length := by rw [List.size_toArray]; exact r.length.symm
  refine ⟨"tuple", _, PyProof.Rows.slot_tuple_getitem.lookup, ht.typeIs, ?_⟩
  refine HT.getItem_tuple_cut ht hs pl pu (by rw [hlen]; exact hw) ?_ (by rw [hlen]; exact hz)
  rw [hlen]
  refine ⟨.ref s.heap.objs.size, _, I.laid (t' := s.toks) (o := .tup (cutV xs lo hi)) (fun b ob q => Heap.get?_push_of_some _ q) (Nat.le_refl _) ?_, rfl, q _ (I.hok.fresh (Nat.le_refl _))⟩
  exact ⟨Nat.le_trans (cutV_length xs lo hi) hz, _, (r.drop (HT.sIx xs.length 0 lo)).take (HT.sIx xs.length xs.length hi - HT.sIx xs.length 0 lo), IsTup.new _ _⟩

/-! ### t < u, t + u -/
def rLtT (K : PySem.W.Frag) : R2 := fun x y H Q => ∃ a b ns ms, x = .ref a ∧ y = .ref b ∧ SqT K H a (ns.map V.int) ∧ SqT K H b (ms.map V.int) ∧ Q (.bl (HT.lexLt ns ms)) H
theorem op_ltT (hu : X.A.units < cLine) : OpR X (compareOp .Lt) (rLtT X.K) := by
  intro pins s σ H x y v u Q I rx ry h
  obtain ⟨a, b, ns, ms, rfl, rfl, ha, hb, q⟩ := h
  cases rx
  cases ry
  obtain ⟨its, r1, p1, _⟩ := I.tuple ha
  obtain ⟨its2, r2, p2, _⟩ := I.tuple hb
  have i1 : IntsAre its.toArray.toList ns := intsAre_of r1
  have i2 : IntsAre its2.toArray.toList ms := intsAre_of r2
  exact HT.lt_tupInts p1 p2 i1 i2 hu ⟨.bl (HT.lexLt ns ms), H, I, rfl, q⟩
/-- t + u, t not empty: u empty gives t itself -/
def rCatT (K : PySem.W.Frag) : R2 := fun x y H Q => ∃ a b xs ys, x = .ref a ∧ y = .ref b ∧ SqT K H a xs ∧ SqT K H b ys ∧ xs ≠ [] ∧ xs.length + ys.length ≤ sizeLine ∧
  (ys = [] → Q (.ref a) H) ∧ (ys ≠ [] → ∀ p, H p = none → Q (.ref p) (upd H p (.tup (xs ++ ys))))
theorem Vals.nil_iff {xs : List V} {us : List Value} (r : Vals xs us) : us = [] ↔ xs = [] := by
  cases r with
  | nil => simp
  | cons _ _ => simp
theorem op_catT : OpR X (binaryOp .Add) (rCatT X.K) := by
  intro pins s σ H x y v u Q I rx ry h
  obtain ⟨a, b, xs, ys, rfl, rfl, ha, hb, hx, hz, q1, q2⟩ := h
  cases rx
  cases ry
  obtain ⟨its, r1, p1, _⟩ := I.tuple ha
  obtain ⟨its2, r2, p2, _⟩ := I.tuple hb
  refine HT.cat_tup p1 p2 (fun z => hx (r1.nil_iff.mp z)) (fun z => ⟨.ref a, H, I, rfl, q1 (r2.nil_iff.mp z)⟩) (fun z => ?_) (by rw [← r1.length, ← r2.length]; exact hz)
  refine ⟨.ref s.heap.objs.size, _, I.laid (t' := s.toks) (o := .tup (xs ++ ys)) (fun b ob q => Heap.get?_push_of_some _ q) (Nat.le_refl _) ?_, rfl, q2 (fun w => z (r2.nil_iff.mpr w)) _ (I.hok.fresh (Nat.le_refl _))⟩
  exact ⟨by rw [List.length_append]; exact hz, _, r1.append r2, IsTup.new _ _⟩
/-- tuple(t) -/
theorem call_tupleT : CallR X (.type "tuple") (fun xs H Q => ∃ a ys, xs = [.ref a] ∧ SqT X.K H a ys ∧ Q (.ref a) H) := by
  intro pins s σ H xs us Q I r h
  obtain ⟨a, ys, rfl, ha, q⟩ := h
  obtain ⟨u, rfl, ru⟩ := vals1 r
  cases ru
  obtain ⟨its, _, p1, _⟩ := I.tuple ha
  exact call_tuple_same (items := its.toArray) p1 ⟨.ref a, H, I, rfl, q⟩
end
end L2

namespace L2
open PySem PySem.Spec PyProof.Rows

/-! ### places -/
/-- the place that an index of any sign means -/
def ixN (n : Nat) (i : Int) : Option Nat := if 0 ≤ i then (if i < n then some i.toNat else none) else if -(n : Int) ≤ i then some (i + n).toNat else none
def atI {α : Type} (xs : List α) (i : Int) : Option α := (ixN xs.length i).bind fun j => xs[j]?
theorem ixN_seq {n : Nat} {i : Int} {j : Nat} (h : ixN n i = some j) : seqIndex? i n = some j ∧ j < n ∧ -(n : Int) ≤ i ∧ i < n := by
  unfold ixN at h
  by_cases h0 : 0 ≤ i
  · rw [if_pos h0] at h
    by_cases h1 : i < n
    · rw [if_pos h1] at h
      have e : i.toNat = j := Option.some.inj h
      exact ⟨by rw [seqIndex_of h0 h1, e], by omega, by omega, h1⟩
    · rw [if_neg h1] at h; cases h
  · rw [if_neg h0] at h
    by_cases h1 : -(n : Int) ≤ i
    · rw [if_pos h1] at h
      have e : (i + n).toNat = j := Option.some.inj h
      exact ⟨by rw [seqIndex_neg (by omega) h1, e], by omega, h1, by omega⟩
    · rw [if_neg h1] at h; cases h
theorem atI_get {α : Type} {xs : List α} {i : Int} {v : α} (h : atI xs i = some v) : ∃ j, seqIndex? i xs.length = some j ∧ xs[j]? = some v ∧ j < xs.length ∧ -(xs.length : Int) ≤ i ∧ i < xs.length := by
  unfold atI at h
  cases e : ixN xs.length i with
  | none => rw [e] at h; cases h
  | some j =>
    rw [e] at h
    obtain ⟨h1, h2, h3, h4⟩ := ixN_seq e
    exact ⟨j, h1, h, h2, h3, h4⟩
theorem atI_nat {α : Type} {xs : List α} {j : Nat} {v : α} (h : xs[j]? = some v) : atI xs (j : Int) = some v := by
  have hj : j < xs.length := (List.getElem?_eq_some_iff.mp h).1
  have e : ixN xs.length (j : Int) = some j := by
    unfold ixN
    rw [if_pos (by omega), if_pos (by omega)]; simp
  unfold atI; rw [e]; exact h
theorem atI_last {α : Type} (xs : List α) (v : α) : atI (xs ++ [v]) (-1) = some v := by
  have hl : (xs ++ [v]).length = xs.length + 1 := by simp
  have e : ixN (xs ++ [v]).length (-1) = some xs.length := by
    unfold ixN
    rw [hl, if_neg (by decide), if_pos (by omega)]
    congr 1
    omega
  unfold atI
  rw [e]
  show (xs ++ [v])[xs.length]? = some v
  simp

/-! ### what may be subscripted -/
/-- what stands as an index of a plain subscript -/
def PlainIx (b : Expr) : Prop := ∀ o i, subscripted b false o i = operate [o, i] (getItem o i)
/-- a subscript by values -/
def IxR (X : Cx) (r : R2) : Prop :=
  ∀ (value slice : Expr) (pins : List (Addr × Obj)) (s : Shared) (σ : St) (H : Hp) (x y : V) (v u : Value) (Q : VK), Inv X pins σ H s → RelV x v → RelV y u → r x y H Q →
    subscripted slice false v u = operate [v, u] (getItem v u) → wpAny (model X.prog X.w) X.A (subscriptTail value slice v u) (EP X pins σ Q) X.xe s
/-- a call of a builtin's method by values: the receiver, the arguments -/
def MtR (X : Cx) (id : String) (r : V → List V → Hp → VK → Prop) : Prop :=
  ∀ (pins : List (Addr × Obj)) (s : Shared) (σ : St) (H : Hp) (x : V) (xs : List V) (v : Value) (us : List Value) (Q : VK), Inv X pins σ H s → RelV x v → Vals xs us → r x xs H Q →
    wpAny (model X.prog X.w) X.A (call (.builtin id) (v :: us)) (EP X pins σ Q) X.xe s
section
variable {X : Cx} {a b : Expr} {ta tb : TE} {pos : Pos}
theorem IxR.or {r r' : R2} (h : IxR X r) (h' : IxR X r') : IxR X (fun x y H Q => r x y H Q ∨ r' x y H Q) := by
  intro value slice pins s σ H x y v u Q I rx ry q hs
  rcases q with q | q
  · exact h value slice pins s σ H x y v u Q I rx ry q hs
  · exact h' value slice pins s σ H x y v u Q I rx ry q hs
theorem MtR.or {id : String} {r r' : V → List V → Hp → VK → Prop} (h : MtR X id r) (h' : MtR X id r') : MtR X id (fun x xs H Q => r x xs H Q ∨ r' x xs H Q) := by
  intro pins s σ H x xs v us Q I rx rs q
  rcases q with q | q
  · exact h pins s σ H x xs v us Q I rx rs q
  · exact h' pins s σ H x xs v us Q I rx rs q
/-- a[b] -/
theorem pe_ix {r : R2} (hr : IxR X r) (ha : PE X a ta) (hb : PE X b tb) (hs : PlainIx b) : PE X (.Subscript a b pos) (tOp r ta tb) := by
  intro pins s σ H Q I h
  exact Subscript_ (binT ha hb I h fun v u s2 x y H2 I2 rx ry q => hr a b pins s2 σ H2 x y v u Q I2 rx ry q (hs _ _))

def rIxL (K : PySem.W.Frag) : R2 := fun x y H Q => ∃ p xs i v, x = .ref p ∧ y = .int i ∧ SqL K H p xs ∧ atI xs i = some v ∧ Q v H
def rIxT (K : PySem.W.Frag) : R2 := fun x y H Q => ∃ p xs i v, x = .ref p ∧ y = .int i ∧ SqT K H p xs ∧ atI xs i = some v ∧ Q v H
def rIxS : R2 := fun x y H Q => ∃ z i c, x = .str z ∧ y = .int i ∧ z.length ≤ sizeLine ∧ atI z.cps.toList i = some c ∧ Q (.str ⟨#[c]⟩) H
theorem ix_list : IxR X (rIxL X.K) := by
  intro value slice pins s σ H x y v u Q I rx ry h hs
  obtain ⟨p, xs, i, z, rfl, rfl, hq, he, q⟩ := h
  cases rx
  obtain ⟨t, rfl⟩ := ry
  obtain ⟨its, r, pl, hz⟩ := I.list hq
  obtain ⟨j, h1, h2, h3, h4, h5⟩ := atI_get he
  obtain ⟨w, ew, rw'⟩ := r.get h2
  have hl := r.length
  have hn := line63
  have fin : EP X pins σ Q w s := ⟨z, H, I, rw', q⟩
  by_cases h0 : 0 ≤ i
  · have hj : i.toNat = j := by
      rw [seqIndex_of h0 h5] at h1
      exact Option.some.inj h1
    exact item_listR pl.isList h0 (by omega) (by rw [hj]; simpa using ew) fin hs
  · have hj : (i + (its.toArray.size : Int)).toNat = j := by
      rw [seqIndex_neg (by omega) h4] at h1
      rw [List.size_toArray, ← hl]
      exact Option.some.inj h1
    exact subscriptTail_builtinR (x := w) pl.isList.typeIs slot_list_getitem.lookup
      (wpAny_getItem_list_neg (Q := fun r s' => r = w ∧ EP X pins σ Q r s') pl.isList (by omega) (by rw [List.size_toArray] <;> omega) (by omega) (by rw [hj]; simpa using ew) ⟨rfl, fin⟩) hs
theorem ix_tup : IxR X (rIxT X.K) := by
  intro value slice pins s σ H x y v u Q I rx ry h hs
  obtain ⟨p, xs, i, z, rfl, rfl, hq, he, q⟩ := h
  cases rx
  obtain ⟨t, rfl⟩ := ry
  obtain ⟨its, r, pl, hz⟩ := I.tuple hq
  obtain ⟨j, h1, h2, h3, h4, h5⟩ := atI_get he
  obtain ⟨w, ew, rw'⟩ := r.get h2
  have hl := r.length
  have hn := line63
  have fin : EP X pins σ Q w s := ⟨z, H, I, rw', q⟩
  exact subscriptTail_builtinR (x := w) pl.typeIs slot_tuple_getitem.lookup
    (getItem_tuple (j := j) (Q := fun r s' => r = w ∧ EP X pins σ Q r s') pl (by omega) (by omega) (by rw [List.size_toArray, ← hl]; exact h1) (by simpa using ew) ⟨rfl, fin⟩) hs
theorem ix_str : IxR X rIxS := by
  intro value slice pins s σ H x y v u Q I rx ry h hs
  obtain ⟨z, i, c, rfl, rfl, hz, he, q⟩ := h
  obtain ⟨t, rfl⟩ := rx
  obtain ⟨t', rfl⟩ := ry
  obtain ⟨j, h1, h2, h3, h4, h5⟩ := atI_get he
  have hl : z.cps.toList.length = z.length := by simp [Str.length]
  rw [hl] at h1 h4 h5
  have hn := line63
  exact tail_any (typeIs_str s z t) slot_str_getitem.lookup (getItem_str (c := c) (by
    have e1 : decide (i < -(2 ^ 63 : Int)) = false := decide_eq_false (by omega)
    have e2 : decide (i ≥ 2 ^ 63) = false := decide_eq_false (by omega)
    rw [e1, e2, Bool.or_false]) (by rw [h1]; simpa using h2) ⟨.str ⟨#[c]⟩, H, I.tok _, ⟨_, rfl⟩, q⟩) hs
/-- list, tuple or str -/
def rIx (K : PySem.W.Frag) : R2 := fun x y H Q => rIxL K x y H Q ∨ rIxT K x y H Q ∨ rIxS x y H Q
theorem ix_seq : IxR X (rIx X.K) := ix_list.or (ix_tup.or ix_str)

/-! ### xs[i] = v, any sign -/
/-- the list's object behind a store -/
theorem mapSeq_set (its : List Value) (n j : Nat) (u : Value) : Obj.mapSeq (·.setIfInBounds j u) { cls := .type "list", data := .seq its.toArray n } = { cls := .type "list", data := .seq (its.set j u).toArray n } := by
  simp [Obj.mapSeq]
theorem Inv.lst {pins : List (Addr × Obj)} {σ : St} {H : Hp} {s : Shared} {p : Addr} {xs : List V} (I : Inv X pins σ H s) (h : H p = some (.lst xs)) :
    ∃ (its : List Value) (n : Nat), Vals xs its ∧ s.heap.get? p = some { cls := .type "list", data := .seq its.toArray n } ∧ xs.length ≤ sizeLine := by
  obtain ⟨z, its, n, r, e⟩ := I.hok p _ h
  exact ⟨its, n, r, e, z⟩
/-- the list at p is written by an update of its object -/
theorem Inv.lstUpd {pins : List (Addr × Obj)} {σ : St} {H : Hp} {s : Shared} {p : Addr} {xs ys : List V} {its its' : List Value} {n n' : Nat} {f : Obj → Obj} (I : Inv X pins σ H s) (h : H p = some (.lst xs))
    (ho : s.heap.get? p = some { cls := .type "list", data := .seq its.toArray n }) (hf : f { cls := .type "list", data := .seq its.toArray n } = { cls := .type "list", data := .seq its'.toArray n' }) (r : Vals ys its') (hz : ys.length ≤ sizeLine) (t : Nat) :
    Inv X pins σ (upd H p (.lst ys)) { s with heap := s.heap.update p f, toks := t } := by
  have e : (s.heap.update p f).get? p = some { cls := .type "list", data := .seq its'.toArray n' } := by
    rw [Heap.get?_update_self f ho (by rw [hf] <;> rfl), hf]
  refine I.write (x := p) (e := p) (by rw [h]; trivial) (.inl rfl) (fun b u hb q => (Heap.get?_update_other _ _ (Ne.symm hb)).trans q) ⟨_, e⟩ ?_
  exact ⟨hz, its', n', r, e⟩
def rSetL : V → V → V → Hp → (Hp → Prop) → Prop := fun o i v H Q => ∃ p xs k j, o = .ref p ∧ i = .int k ∧ H p = some (.lst xs) ∧ ixN xs.length k = some j ∧ Q (upd H p (.lst (xs.set j v)))
theorem set_list : PSet X rSetL := by
  intro pins s σ H o i v ov iv u Q I ro ri rv h
  obtain ⟨p, xs, k, j, rfl, rfl, hp, hj, q⟩ := h
  cases ro
  obtain ⟨t, rfl⟩ := ri
  obtain ⟨its, n, r, ho, hz⟩ := I.lst hp
  obtain ⟨h1, h2, h3, h4⟩ := ixN_seq hj
  have hl := r.length
  have hn := line63
  have I' : Inv X pins σ (upd H p (.lst (xs.set j v))) { s with heap := s.heap.update p (Obj.mapSeq (·.setIfInBounds j u)) } :=
    I.lstUpd hp ho (mapSeq_set its n j u) (r.set rv j) (by rw [List.length_set]; exact hz) s.toks
  by_cases h0 : 0 ≤ k
  · have hk : k.toNat = j := by
      rw [seqIndex_of h0 h4] at h1
      exact Option.some.inj h1
    exact PySem.W.ki_setAt ho h0 (by omega) (by rw [List.size_toArray, ← hl]; exact h4) (by rw [hk]; exact ⟨_, I', q⟩)
  · have hk : (k + (its.toArray.size : Int)).toNat = j := by
      rw [seqIndex_neg (by omega) h3] at h1
      rw [List.size_toArray, ← hl]
      exact Option.some.inj h1
    exact PySem.W.ki_setBack ho (by omega) (by rw [List.size_toArray, ← hl]; exact h3) (by omega) (by rw [hk]; exact ⟨_, I', q⟩)

/-! ### slices -/
theorem slice_bounds (lo hi : Option Int) (n : Nat) : (sliceBounds lo hi none n).1 = ((HT.sIx n 0 lo : Nat) : Int) ∧ (sliceBounds lo hi none n).2.1 = ((HT.sIx n n hi : Nat) : Int) ∧ (sliceBounds lo hi none n).2.2 = 1 := by
  refine ⟨?_, ?_, rfl⟩
  · cases lo with
    | none => simp [sliceBounds, HT.sIx]
    | some i =>
      simp only [sliceBounds, HT.sIx, Option.getD_none, show (1 : Int) > 0 by decide, if_true]
      by_cases h : i < 0
      · simp only [h, if_true] <;> omega
      · simp only [h, if_false] <;> omega
  · cases hi with
    | none => simp [sliceBounds, HT.sIx]
    | some i =>
      simp only [sliceBounds, HT.sIx, Option.getD_none, show (1 : Int) > 0 by decide, if_true]
      by_cases h : i < 0
      · simp only [h, if_true] <;> omega
      · simp only [h, if_false] <;> omega
theorem slicePick_cut (its : List Value) (lo hi : Option Int) : slicePick its.toArray lo hi none = ((its.drop (HT.sIx its.length 0 lo)).take (HT.sIx its.length its.length hi - HT.sIx its.length 0 lo)).toArray := by
  obtain ⟨h1, h2, h3⟩ := slice_bounds lo hi its.toArray.size
  unfold slicePick
  rw [h1, h2, h3]
  simp only [sliceRange_one, pick_run, List.size_toArray] <;> rfl
/-- xs[lo:hi] of a list: a new list -/
def rSlL (K : PySem.W.Frag) : V → Option Int → Option Int → Hp → VK → Prop := fun x lo hi H Q => ∃ a xs, x = .ref a ∧ SqL K H a xs ∧ ∀ p, H p = none → Q (.ref p) (upd H p (.lst (cutV xs lo hi)))
theorem sl_list : SlR X (rSlL X.K) := by
  intro pins s σ H x v vl vu lo hi sl Q I rx hs pl pu h
  obtain ⟨a, xs, rfl, hx, q⟩ := h
  cases rx
  obtain ⟨its, r, ht, hz⟩ := I.list hx
  have hlen := r.length
  refine ⟨"list", _, slot_list_getitem.lookup, ht.isList.typeIs, ?_⟩
  refine wpAny_getItem_list_slice ht.isList hs pl pu .none (by simp) ?_ (by rw [List.size_toArray] <;> omega)
  rw [slicePick_cut, ← hlen]
  refine ⟨.ref s.heap.objs.size, _, I.laid (t' := s.toks) (o := .lst (cutV xs lo hi)) (fun b ob q => Heap.get?_push_of_some _ q) (Nat.le_refl _) ?_, rfl, q _ (I.hok.fresh (Nat.le_refl _))⟩
  exact ⟨Nat.le_trans (cutV_length xs lo hi) hz, _, 0, (r.drop (HT.sIx xs.length 0 lo)).take (HT.sIx xs.length xs.length hi - HT.sIx xs.length 0 lo), Heap.get?_push_size _ rfl⟩

/-! ### in, not in: flat items -/
def flatV : V → Bool
  | .non => true
  | .bl _ => true
  | .int _ => true
  | .str _ => true
  | _ => false
/-- == of flat values -/
def eqV : V → V → Bool
  | .non, .non => true
  | .bl a, .bl b => a == b
  | .bl a, .int b => (if a then 1 else 0) == b
  | .int a, .bl b => a == (if b then 1 else 0)
  | .int a, .int b => a == b
  | .str a, .str b => a == b
  | _, _ => false
theorem eqAt_V {A : Around} {s : Shared} {y x : V} {u v : Value} (ry : RelV y u) (rx : RelV x v) (fy : flatV y = true) (fx : flatV x = true) : SeqAt.EqAt A s u v (eqV y x) := by
  cases y with
  | non =>
    cases ry
    cases x with
    | non => cases rx; exact SeqAt.EqAt.same _
    | bl b => cases rx; exact SeqAt.EqAt.none_bool b
    | int b => obtain ⟨t, rfl⟩ := rx; exact SeqAt.EqAt.none_int b t
    | str b => obtain ⟨t, rfl⟩ := rx; exact SeqAt.EqAt.none_str b t
    | _ => exact absurd (show false = true from fx) Bool.false_ne_true
  | bl a =>
    cases ry
    cases x with
    | non => cases rx; exact SeqAt.EqAt.bool_none a
    | bl b => cases rx; exact SeqAt.EqAt.bool_bool a b
    | int b => obtain ⟨t, rfl⟩ := rx; exact SeqAt.EqAt.bool_int a b t
    | str b => obtain ⟨t, rfl⟩ := rx; exact SeqAt.EqAt.bool_str a b t
    | _ => exact absurd (show false = true from fx) Bool.false_ne_true
  | int a =>
    obtain ⟨t', rfl⟩ := ry
    cases x with
    | non => cases rx; exact SeqAt.EqAt.int_none a t'
    | bl b => cases rx; exact SeqAt.EqAt.int_bool a t' b
    | int b => obtain ⟨t, rfl⟩ := rx; exact SeqAt.EqAt.int_int a t' b t
    | str b => obtain ⟨t, rfl⟩ := rx; exact SeqAt.EqAt.int_str a t' b t
    | _ => exact absurd (show false = true from fx) Bool.false_ne_true
  | str a =>
    obtain ⟨t', rfl⟩ := ry
    cases x with
    | non => cases rx; exact SeqAt.EqAt.str_none a t'
    | bl b => cases rx; exact SeqAt.EqAt.str_bool a t' b
    | int b => obtain ⟨t, rfl⟩ := rx; exact SeqAt.EqAt.str_int a t' b t
    | str b => obtain ⟨t, rfl⟩ := rx; exact SeqAt.EqAt.str_str a t' b t
    | _ => exact absurd (show false = true from fx) Bool.false_ne_true
  | _ => exact absurd (show false = true from fy) Bool.false_ne_true
/-- the items' answers, read off the values (a value's own answer does not lean on its token) -/
def eqU (x : V) (u : Value) : Bool := match u with
  | .none => eqV .non x
  | .bool b => eqV (.bl b) x
  | .int i _ => eqV (.int i) x
  | .str z _ => eqV (.str z) x
  | _ => false
theorem eqU_of {x y : V} {u : Value} (r : RelV y u) (f : flatV y = true) : eqU x u = eqV y x := by
  cases y with
  | non => cases r; rfl
  | bl b => cases r; rfl
  | int i => obtain ⟨t, rfl⟩ := r; rfl
  | str z => obtain ⟨t, rfl⟩ := r; rfl
  | _ => exact absurd (show false = true from f) Bool.false_ne_true
theorem any_eqU {x : V} : ∀ {xs : List V} {us : List Value}, Vals xs us → xs.all flatV = true → us.any (eqU x) = xs.any fun y => eqV y x
  | _, _, .nil, _ => rfl
  | y :: xs, u :: us, .cons r t, f => by
    rw [List.all_cons, Bool.and_eq_true] at f
    rw [List.any_cons, List.any_cons, eqU_of r f.1, any_eqU t f.2]
theorem mem_eqAt {A : Around} {s : Shared} {x : V} {v : Value} (rx : RelV x v) (fx : flatV x = true) : ∀ {xs : List V} {us : List Value}, Vals xs us → xs.all flatV = true → ∀ u ∈ us, SeqAt.EqAt A s u v (eqU x u)
  | _, _, .nil, _ => fun u hu => by cases hu
  | y :: xs, u :: us, .cons r t, f => fun u' hu => by
    rw [List.all_cons, Bool.and_eq_true] at f
    rcases List.mem_cons.mp hu with rfl | hu
    · rw [eqU_of r f.1]; exact eqAt_V r rx f.1 fx
    · exact mem_eqAt rx fx t f.2 u' hu
def inV (x : V) (xs : List V) : Bool := xs.any fun y => eqV y x
/-- x in a list or tuple of flat items -/
def rIn (K : PySem.W.Frag) (neg : Bool) : R2 := fun x y H Q => ∃ p xs, y = .ref p ∧ (SqL K H p xs ∨ SqT K H p xs) ∧ flatV x = true ∧ xs.all flatV = true ∧ Q (.bl (if neg then !inV x xs else inV x xs)) H
theorem op_in_seq : OpR X (compareOp .In) (rIn X.K false) := by
  intro pins s σ H x y v u Q I rx ry h
  obtain ⟨p, xs, rfl, hq, fx, fs, q⟩ := h
  cases ry
  rcases hq with hq | hq
  · obtain ⟨its, r, pl, hz⟩ := I.list hq
    refine SeqAt.in_listAt (eqU x) pl.isList (fun w hw => mem_eqAt rx fx r fs w (by simpa using hw)) ⟨.bl _, H, I, rfl, ?_⟩
    rw [show its.toArray.any (eqU x) = its.any (eqU x) by simp, any_eqU r fs]
    exact q
  · obtain ⟨its, r, pl, hz⟩ := I.tuple hq
    refine SeqAt.in_tupleAt (eqU x) pl (fun w hw => mem_eqAt rx fx r fs w (by simpa using hw)) ⟨.bl _, H, I, rfl, ?_⟩
    rw [show its.toArray.any (eqU x) = its.any (eqU x) by simp, any_eqU r fs]
    exact q
theorem op_notIn_seq : OpR X (compareOp .NotIn) (rIn X.K true) := by
  intro pins s σ H x y v u Q I rx ry h
  obtain ⟨p, xs, rfl, hq, fx, fs, q⟩ := h
  cases ry
  rcases hq with hq | hq
  · obtain ⟨its, r, pl, hz⟩ := I.list hq
    refine SeqAt.notIn_listAt (eqU x) pl.isList (fun w hw => mem_eqAt rx fx r fs w (by simpa using hw)) ⟨.bl _, H, I, rfl, ?_⟩
    rw [show its.toArray.any (eqU x) = its.any (eqU x) by simp, any_eqU r fs]
    exact q
  · obtain ⟨its, r, pl, hz⟩ := I.tuple hq
    refine SeqAt.notIn_tupleAt (eqU x) pl (fun w hw => mem_eqAt rx fx r fs w (by simpa using hw)) ⟨.bl _, H, I, rfl, ?_⟩
    rw [show its.toArray.any (eqU x) = its.any (eqU x) by simp, any_eqU r fs]
    exact q
theorem op_notIn_str : OpR X (compareOp .NotIn) (fun x y H Q => ∃ i j, x = .str i ∧ y = .str j ∧ Q (.bl (!(!(Builtin.Str.occurrences j i 0 j.length 1).isEmpty))) H) := by
  intro pins s σ H x y v u Q I rx ry h
  obtain ⟨i, j, rfl, rfl, q⟩ := h
  obtain ⟨t, rfl⟩ := rx
  obtain ⟨t', rfl⟩ := ry
  exact notIn_str ⟨.bl _, H, I, rfl, q⟩

/-! ### len, list(x), tuple(x) of any list or tuple that is read -/
theorem call_len_seq : CallR X (.builtin "len") (fun xs H Q => ∃ p ys, xs = [.ref p] ∧ (SqL X.K H p ys ∨ SqT X.K H p ys) ∧ Q (.int ys.length) H) := by
  intro pins s σ H xs us Q I r h
  obtain ⟨p, ys, rfl, hq, q⟩ := h
  obtain ⟨u, rfl, rx⟩ := vals1 r
  cases rx
  have hn := line63
  rcases hq with hq | hq
  · obtain ⟨its, r', pl, hz⟩ := I.list hq
    have hlen := r'.length
    exact Calls.call_len_list pl.isList (by simp only [List.size_toArray] <;> omega) ⟨.int ys.length, H, I.tok _, ⟨s.toks + 1, by rw [List.size_toArray, hlen]⟩, q⟩
  · obtain ⟨its, r', pl, hz⟩ := I.tuple hq
    have hlen := r'.length
    exact len_tuple pl (by simp only [List.size_toArray] <;> omega) ⟨.int ys.length, H, I.tok _, ⟨s.toks + 1, by rw [List.size_toArray, hlen]⟩, q⟩
theorem call_len_str : CallR X (.builtin "len") (fun xs H Q => ∃ z, xs = [.str z] ∧ z.length ≤ sizeLine ∧ Q (.int z.length) H) := by
  intro pins s σ H xs us Q I r h
  obtain ⟨z, rfl, hz, q⟩ := h
  obtain ⟨u, rfl, t, rfl⟩ := vals1 r
  have hn := line63
  exact len_str (by omega) ⟨.int z.length, H, I.tok _, ⟨_, rfl⟩, q⟩
theorem CallR.or {f : Value} {r r' : List V → Hp → VK → Prop} (h : CallR X f r) (h' : CallR X f r') : CallR X f (fun xs H Q => r xs H Q ∨ r' xs H Q) := by
  intro pins s σ H xs us Q I rs q
  rcases q with q | q
  · exact h pins s σ H xs us Q I rs q
  · exact h' pins s σ H xs us Q I rs q
theorem call_list_of : CallR X (.type "list") (fun xs H Q => ∃ p ys, xs = [.ref p] ∧ (SqL X.K H p ys ∨ SqT X.K H p ys) ∧ ∀ l, H l = none → Q (.ref l) (upd H l (.lst ys))) := by
  intro pins s σ H xs us Q I r h
  obtain ⟨p, ys, rfl, hq, q⟩ := h
  obtain ⟨u, rfl, rx⟩ := vals1 r
  cases rx
  have fin : ∀ (its : List Value), Vals ys its → ys.length ≤ sizeLine → ∀ (h' : Heap) (c' : Nat), (∀ b o', s.heap.get? b = some o' → h'.get? b = some o') →
      h'.get? s.heap.objs.size = some { cls := .type "list", dict := none, data := .seq its.toArray c', slots := #[] } → EP X pins σ Q (.ref s.heap.objs.size) { s with heap := h' } := fun its r' hz h' c' kp e =>
    ⟨.ref s.heap.objs.size, _, I.laid (t' := s.toks) kp (Nat.le_refl _) (show ObjOk X.prog X.w _ h' _ (.lst ys) from ⟨hz, its, c', r', e⟩), rfl, q _ (I.hok.fresh (Nat.le_refl _))⟩
  rcases hq with hq | hq
  · obtain ⟨its, r', pl, hz⟩ := I.list hq
    have hlen := r'.length
    obtain ⟨o, ho, hc, n, hd⟩ := pl.isList
    exact call_list_seq p (.inl rfl) ho hc hd (fun h' c' kp e => fin its r' hz h' c' kp e) (by simp only [List.size_toArray] <;> omega)
  · obtain ⟨its, r', pl, hz⟩ := I.tuple hq
    have hlen := r'.length
    obtain ⟨o, ho, hc, n, hd⟩ := pl
    exact call_list_seq p (.inr rfl) ho hc hd (fun h' c' kp e => fin its r' hz h' c' kp e) (by simp only [List.size_toArray] <;> omega)
theorem call_tuple_of : CallR X (.type "tuple") (fun xs H Q => ∃ p ys, xs = [.ref p] ∧ ((SqL X.K H p ys ∧ ∀ l, H l = none → Q (.ref l) (upd H l (.tup ys))) ∨ (SqT X.K H p ys ∧ Q (.ref p) H))) := by
  intro pins s σ H xs us Q I r h
  obtain ⟨p, ys, rfl, h⟩ := h
  obtain ⟨u, rfl, rx⟩ := vals1 r
  cases rx
  rcases h with ⟨hq, q⟩ | ⟨hq, q⟩
  · obtain ⟨its, r', pl, hz⟩ := I.list hq
    have hlen := r'.length
    refine call_tuple_list pl.isList (fun h' kp => ?_) (by simp only [List.size_toArray] <;> omega)
    have I1 : Inv X pins σ H { s with heap := h' } := I.kept (t' := s.toks) kp
    have I2 : Inv X pins σ (upd H h'.objs.size (.tup ys)) { s with heap := h'.push { cls := .type "tuple", data := .seq its.toArray } } :=
      I1.laid (t' := s.toks) (fun b o e => Heap.get?_push_of_some _ e) (Nat.le_refl _) (show ObjOk X.prog X.w _ _ _ (.tup ys) from ⟨hz, its, r', IsTup.new _ _⟩)
    exact ⟨.ref h'.objs.size, _, I2, rfl, q _ (I1.hok.fresh (Nat.le_refl _))⟩
  · obtain ⟨its, r', pl, hz⟩ := I.tuple hq
    exact call_tuple_same pl ⟨.ref p, H, I, rfl, q⟩

/-! ### the call of a builtin's method: o.m(..) -/
/-- the value is of that builtin type -/
def tyV (K : PySem.W.Frag) (T : String) (x : V) (H : Hp) : Prop := match x with
  | .str _ => T = "str"
  | .int _ => T = "int"
  | .ref p => (T = "list" ∧ ∃ xs, SqL K H p xs) ∨ (T = "tuple" ∧ ∃ o, K.lookup p = some o ∧ o.cls = .type "tuple" ∧ o.dict = none) ∨
      (T = "dict" ∧ ((∃ kvs, H p = some (.dK kvs)) ∨ ∃ kvs, H p = some (.dT kvs))) ∨ (T = "set" ∧ ∃ S n, H p = some (.set S n))
  | _ => False
theorem tyV_is {pins : List (Addr × Obj)} {σ : St} {H : Hp} {s : Shared} {T : String} {x : V} {v : Value} (I : Inv X pins σ H s) (r : RelV x v) (ty : tyV X.K T x H) :
    s.TypeIs v T ∧ ∀ a, v = .ref a → ∃ ob, s.heap.get? a = some ob ∧ ob.dict = none := by
  cases x with
  | str z =>
    obtain ⟨t, rfl⟩ := r
    cases (show T = "str" from ty)
    exact ⟨typeIs_str s z t, fun _ e => nomatch e⟩
  | int i =>
    obtain ⟨t, rfl⟩ := r
    cases (show T = "int" from ty)
    exact ⟨typeIs_int s i t, fun _ e => nomatch e⟩
  | ref p =>
    cases r
    rcases ty with ⟨rfl, xs, hq⟩ | ⟨rfl, o, hk, hc, hd⟩ | ⟨rfl, hk⟩ | ⟨rfl, S, n, hk⟩
    · obtain ⟨its, _, pl, _⟩ := I.list hq
      refine ⟨pl.isList.typeIs, fun a e => ?_⟩
      cases e
      obtain ⟨o, n, e, c, hd, _⟩ := pl
      exact ⟨o, e, hd⟩
    · refine ⟨⟨o, I.kIn p o hk, hc⟩, fun a e => ?_⟩
      cases e
      exact ⟨o, I.kIn _ o hk, hd⟩
    · have z : ∃ o, s.heap.get? p = some o ∧ o.ExactDict := by
        rcases hk with ⟨kvs, hk⟩ | ⟨kvs, hk⟩
        · obtain ⟨_, _, _, _, o, _, _, e, ex, _⟩ := I.hok p _ hk
          exact ⟨o, e, ex⟩
        · obtain ⟨_, _, _, _, o, _, _, e, ex, _⟩ := I.hok p _ hk
          exact ⟨o, e, ex⟩
      obtain ⟨o, e, ex⟩ := z
      refine ⟨⟨o, e, ex.1⟩, fun a e2 => ?_⟩
      cases e2
      exact ⟨o, e, ex.2.1⟩
    · obtain ⟨o, _, _, _, e, ex, _⟩ := I.hok p _ hk
      refine ⟨⟨o, e, ex.1⟩, fun a e2 => ?_⟩
      cases e2
      exact ⟨o, e, ex.2.1⟩
  | _ => exact False.elim ty
def tBM0 (K : PySem.W.Frag) (T : String) (r : V → List V → Hp → VK → Prop) (to : TE) : TE := fun σ H Q => to σ H fun x H1 => tyV K T x H1 ∧ r x [] H1 Q
def tBM (K : PySem.W.Frag) (T : String) (r : V → List V → Hp → VK → Prop) (to : TE) (t : TA) : TE := fun σ H Q => to σ H fun x H1 => tyV K T x H1 ∧ t σ H1 fun xs H2 => r x xs H2 Q
variable {o e : Expr} {es : List Expr} {to : TE} {t : TA} {name : Str} {apos cpos : Pos} {T id : String} {r : V → List V → Hp → VK → Prop}
theorem pe_bm0 (pa : PlainAttrs T) (slot : Slot T name id) (hty : typeOf (.builtin id) = pure (.type "method_descriptor")) (hm : MtR X id r) (ho : PE X o to)
    (hbase : attributeBase o name X.env (eval o X.env) = eval o X.env := by rfl) (hline : (apos.endLine == cpos.line) = true := by rfl) : PE X (.Call (.Attribute o name apos) [] [] cpos) (tBM0 X.K T r to) := by
  intro pins s σ H Q I h
  refine wpAny_Call_method0_late hbase hline (thn (ho pins s σ H _ I h) fun v s1 ⟨x, H1, I1, r1, ty, q1⟩ => ?_)
  obtain ⟨h1, h2⟩ := tyV_is I1 r1 ty
  exact ⟨T, id, pa, slot, hty, h1, h2, Calls.callWith_builtin rfl (PySem.evalArgs_none (hm pins s1 σ H1 x [] v [] Q I1 r1 .nil q1))⟩
theorem pe_bm (pa : PlainAttrs T) (slot : Slot T name id) (hty : typeOf (.builtin id) = pure (.type "method_descriptor")) (hm : MtR X id r) (ho : PE X o to) (ha : PA X (e :: es) t)
    (hbase : attributeBase o name X.env (eval o X.env) = eval o X.env := by rfl)
    (hfew : ((backTo cpos (starEach (e :: es) X.env)).all (fun x => !x.1) && (backToKw cpos (keywordEach [] X.env)).all (fun x => x.1.isSome)
      && decide ((e :: es).length + ([] : List Keyword).length + (if ([] : List Keyword).isEmpty then 0 else 1) < 30)) = true := by rfl)
    (hline : (apos.endLine == cpos.line) = true := by rfl) (hs : starEach (e :: es) X.env = (false, eval e X.env) :: starEach es X.env := by rfl) (hplain : (backTo cpos (starEach es X.env)).any (·.1) = false := by rfl) :
    PE X (.Call (.Attribute o name apos) (e :: es) [] cpos) (tBM X.K T r to t) := by
  intro pins s σ H Q I h
  refine wpAny_Call_method_late hbase hfew hline rfl (thn (ho pins s σ H _ I h) fun v s1 ⟨x, H1, I1, r1, ty, q1⟩ => ?_)
  obtain ⟨h1, h2⟩ := tyV_is I1 r1 ty
  refine ⟨T, id, pa, slot, hty, h1, h2, ?_⟩
  have hA := ha cpos pins s1 σ H1 _ I1 q1
  rw [hs] at hA ⊢
  refine Calls.callWith_builtin (by show (false || (backTo cpos (starEach es X.env)).any (·.1)) = false; rw [hplain] <;> rfl) (Calls.evalArgs_plain ?_)
  exact thn hA fun us s2 ⟨vs, H2, I2, r2, q2⟩ => hm pins s2 σ H2 x vs v us Q I2 r1 r2 q2
/- xs.append(e), list.index on a module's tuple .. are MtR facts of 06m -/
end
end L2

namespace L2
open PySem PySem.Spec PyProof.Rows

def MtM (X : Cx) (id : String) (r : V → List V → Hp → VK → Prop) : Prop :=
  ∀ (pins : List (Addr × Obj)) (s : Shared) (σ : St) (H : Hp) (x : V) (xs : List V) (v : Value) (us : List Value) (Q : VK), Inv X pins σ H s → RelV x v → Vals xs us → r x xs H Q →
    wpAny (model X.prog X.w) X.A (call (.builtin id) (v :: us)) (EP X pins σ Q) X.xe s

/-! ### lists of values -/
theorem Vals.one : ∀ {x : V} {us : List Value}, Vals [x] us → ∃ u, us = [u] ∧ RelV x u
  | _, _, .cons r .nil => ⟨_, rfl, r⟩
theorem Vals.two : ∀ {x y : V} {us : List Value}, Vals [x, y] us → ∃ u v, us = [u, v] ∧ RelV x u ∧ RelV y v
  | _, _, _, .cons r (.cons q .nil) => ⟨_, _, rfl, r, q⟩
theorem Vals.zero : ∀ {us : List Value}, Vals [] us → us = []
  | _, .nil => rfl
theorem Vals.dropLast {xs : List V} {us : List Value} (h : Vals xs us) : Vals xs.dropLast us.dropLast := by
  induction h with
  | nil => exact .nil
  | cons r t ih =>
    cases t with
    | nil => exact .nil
    | cons q t' => exact .cons r ih
theorem Vals.eraseIdx : ∀ {xs : List V} {us : List Value} (i : Nat), Vals xs us → Vals (xs.eraseIdx i) (us.eraseIdx i)
  | _, _, _, .nil => .nil
  | _, _, 0, .cons _ t => t
  | _, _, i + 1, .cons r t => .cons r (Vals.eraseIdx i t)
theorem Vals.reverse {xs : List V} {us : List Value} (h : Vals xs us) : Vals xs.reverse us.reverse := by
  induction h with
  | nil => exact .nil
  | cons r t ih => rw [List.reverse_cons, List.reverse_cons]; exact Vals.append ih (.cons r .nil)
theorem Vals.rep {xs : List V} {us : List Value} (h : Vals xs us) : ∀ k : Nat, Vals (List.replicate k xs).flatten (List.replicate k us).flatten
  | 0 => .nil
  | k + 1 => by
    rw [List.replicate_succ, List.replicate_succ, List.flatten_cons, List.flatten_cons]
    exact Vals.append h (Vals.rep h k)
theorem erase_last {α : Type} (l : List α) : l.eraseIdx (l.length - 1) = l.dropLast := by
  induction l with
  | nil => rfl
  | cons a r ih =>
    cases r with
    | nil => rfl
    | cons b r =>
      have e : (a :: b :: r).length - 1 = ((b :: r).length - 1) + 1 := by
        have h1 : (a :: b :: r).length = r.length + 2 := rfl
        have h2 : (b :: r).length = r.length + 1 := rfl
        omega
      rw [e, List.eraseIdx_cons_succ, ih]
      all_goals rfl
theorem len_erase {α : Type} : ∀ (l : List α) (i : Nat), (l.eraseIdx i).length ≤ l.length
  | [], _ => Nat.le_refl _
  | _ :: _, 0 => Nat.le_succ _
  | _ :: r, i + 1 => Nat.succ_le_succ (len_erase r i)
theorem foldl_rep (its : List Value) : ∀ (k : Nat) (acc : List Value),
    List.foldl (fun x1 x2 => x1 ++ x2) acc.toArray (List.replicate k its.toArray) = (acc ++ (List.replicate k its).flatten).toArray
  | 0, acc => by simp
  | k + 1, acc => by
    have e : acc.toArray ++ its.toArray = (acc ++ its).toArray := by simp
    have e2 : (acc ++ its) ++ (List.replicate k its).flatten = acc ++ (List.replicate (k + 1) its).flatten := by
      rw [List.replicate_succ, List.flatten_cons, List.append_assoc]
    rw [← e2, ← foldl_rep its k (acc ++ its), ← e, List.replicate_succ, List.foldl_cons]

section
variable {X : Cx} {pins : List (Addr × Obj)} {σ : St} {H : Hp} {s : Shared} {l b : Addr} {xs ys zs : List V}

/-! ### the two steps: a tracked list is rewritten, a new list is laid -/
theorem Inv.lset {its its' : List Value} {n : Nat} {f : Array Value → Array Value} {t' : Nat} (I : Inv X pins σ H s) (hH : H l = some (.lst xs))
    (e : s.heap.get? l = some { cls := .type "list", data := .seq its.toArray n }) (hf : f its.toArray = its'.toArray) (hv : Vals ys its') (hz : ys.length ≤ sizeLine) :
    Inv X pins σ (upd H l (.lst ys)) { s with heap := s.heap.update l (Obj.mapSeq f), toks := t' } := by
  have q := PySem.IsL.update e f
  rw [hf] at q
  refine I.write (x := l) (e := l) (by rw [hH]; exact trivial) (.inl rfl) (fun b' u hb hu => (Heap.get?_update_other s.heap (Obj.mapSeq f) (Ne.symm hb)).trans hu) ⟨_, q⟩ ?_
  exact ⟨hz, its', _, hv, q⟩
theorem Inv.lnew {its : List Value} {t' : Nat} (I : Inv X pins σ H s) (hv : Vals ys its) (hz : ys.length ≤ sizeLine) :
    Inv X pins σ (upd H s.heap.objs.size (.lst ys)) { s with heap := s.heap.push { cls := .type "list", data := .seq its.toArray }, toks := t' } :=
  I.laid (fun _ _ q => Heap.get?_push_of_some _ q) (Nat.le_refl _) ⟨hz, its, 0, hv, Heap.get?_push_size _ rfl⟩
theorem Inv.fresh (I : Inv X pins σ H s) : H s.heap.objs.size = none := I.hok.fresh (Nat.le_refl _)
theorem Inv.lstM (I : Inv X pins σ H s) (hH : H l = some (.lst xs)) : xs.length ≤ sizeLine ∧ ∃ (its : List Value) (n : Nat), Vals xs its ∧ xs.length = its.length ∧ s.heap.get? l = some { cls := .type "list", data := .seq its.toArray n } := by
  obtain ⟨z, its, n, r, e⟩ := I.hok l _ hH
  exact ⟨z, its, n, r, r.length, e⟩

theorem notLongL {n : Nat} (h : n ≤ sizeLine) : Builtin.List.listTooLong n = false := by
  unfold Builtin.List.listTooLong
  exact decide_eq_false (by omega)
end

section
variable {X : Cx}

/-! ### methods -/
def rAppend : V → List V → Hp → VK → Prop := fun x vs H Q => ∃ l xs y, x = .ref l ∧ vs = [y] ∧ H l = some (.lst xs) ∧ xs.length < sizeLine ∧ Q .non (upd H l (.lst (xs ++ [y])))
theorem mt_append : MtM X "list.append" rAppend := by
  intro pins s σ H x vs v us Q I rx rv h
  obtain ⟨l, xs, y, rfl, rfl, hH, hz, q⟩ := h
  cases rx
  obtain ⟨u, rfl, ru⟩ := rv.one
  obtain ⟨z, its, n, r, hl, e⟩ := I.lstM hH
  refine call_meets F.slot_list_append ⟨_, e, rfl⟩ F.entry_list_append (F.args_list_append_2 _ _) (PySem.list_append l its.toArray n u (by rw [List.size_toArray]; omega)) ⟨e, ?_⟩
  refine ⟨.non, _, I.lset (its' := its ++ [u]) hH e (by simp) (r.append (.cons ru .nil)) ?_, rfl, q⟩
  rw [List.length_append, List.length_singleton]
  omega

def rExtend : V → List V → Hp → VK → Prop := fun x vs H Q => ∃ l b xs zs, x = .ref l ∧ vs = [.ref b] ∧ H l = some (.lst xs) ∧ H b = some (.lst zs) ∧ xs.length + zs.length ≤ sizeLine ∧ Q .non (upd H l (.lst (xs ++ zs)))
theorem mt_extend : MtM X "list.extend" rExtend := by
  intro pins s σ H x vs v us Q I rx rv h
  obtain ⟨l, b, xs, zs, rfl, rfl, hH, hB, hz, q⟩ := h
  cases rx
  obtain ⟨u, rfl, ru⟩ := rv.one
  cases ru
  obtain ⟨z, its, n, r, hl, e⟩ := I.lstM hH
  obtain ⟨z2, its2, n2, r2, hl2, e2⟩ := I.lstM hB
  have hsz : its.toArray.size + its2.toArray.size ≤ sizeLine := by rw [List.size_toArray, List.size_toArray]; omega
  have hlong : ¬ (!its.toArray.isEmpty && Builtin.List.listTooLong (its.toArray.size + its2.toArray.size)) = true := by
    rw [notLongL hsz, Bool.and_false]
    exact Bool.false_ne_true
  refine call_meets F.slot_list_extend ⟨_, e, rfl⟩ F.entry_list_extend (F.args_list_extend_2 _ _)
    (AutoSeq1.list_extend_list_list_0 l its.toArray n b its2.toArray n2 hlong (by rw [List.size_toArray]; omega) (by omega)) ⟨e, e2, ?_⟩
  refine ⟨.non, _, I.lset (its' := its ++ its2) hH e (by simp) (r.append r2) ?_, rfl, q⟩
  rw [List.length_append]
  omega

def rPop : V → List V → Hp → VK → Prop := fun x vs H Q => ∃ l xs y, x = .ref l ∧ vs = [] ∧ H l = some (.lst xs) ∧ xs[xs.length - 1]? = some y ∧ Q y (upd H l (.lst xs.dropLast))
theorem mt_pop : MtM X "list.pop" rPop := by
  intro pins s σ H x vs v us Q I rx rv h
  obtain ⟨l, xs, y, rfl, rfl, hH, hy, q⟩ := h
  cases rx
  have hus := rv.zero
  subst hus
  obtain ⟨z, its, n, r, hl, e⟩ := I.lstM hH
  obtain ⟨u, hu, ru⟩ := r.get hy
  have hy' : its.toArray[its.toArray.size - 1]? = some u := by
    show its.toArray[its.length - 1]? = some u
    rw [← Array.getElem?_toList, ← hl]
    exact hu
  refine call_meets F.slot_list_pop ⟨_, e, rfl⟩ F.entry_list_pop (F.args_list_pop_1 _) (MeetsSeq.list_pop_last l its.toArray n u hy' (by rw [List.size_toArray]; omega)) ⟨e, ?_⟩
  refine ⟨y, _, I.lset (its' := its.dropLast) hH e ?_ r.dropLast ?_, ru, q⟩
  · show its.toArray.eraseIdxIfInBounds (its.toArray.size - 1) = its.dropLast.toArray
    rw [List.size_toArray, List.eraseIdxIfInBounds_toArray, erase_last]
  · rw [List.length_dropLast]
    omega

def rPopAt : V → List V → Hp → VK → Prop := fun x vs H Q => ∃ l xs i k y, x = .ref l ∧ vs = [.int i] ∧ H l = some (.lst xs) ∧ -(2 ^ 63) ≤ i ∧ i < 2 ^ 63 ∧ seqIndex? i xs.length = some k ∧ xs[k]? = some y ∧ Q y (upd H l (.lst (xs.eraseIdx k)))
theorem mt_popAt : MtM X "list.pop" rPopAt := by
  intro pins s σ H x vs v us Q I rx rv h
  obtain ⟨l, xs, i, k, y, rfl, rfl, hH, h1, h2, hk, hy, q⟩ := h
  cases rx
  obtain ⟨u, rfl, ru⟩ := rv.one
  obtain ⟨t, rfl⟩ := ru
  obtain ⟨z, its, n, r, hl, e⟩ := I.lstM hH
  obtain ⟨w, hw, rw'⟩ := r.get hy
  refine call_meets F.slot_list_pop ⟨_, e, rfl⟩ F.entry_list_pop (F.args_list_pop_2 _ _)
    (MeetsSeq.list_pop_at l its.toArray n i t k w (fitsIndex_both h1 h2) (by rw [List.size_toArray, ← hl]; exact hk) (by rw [← Array.getElem?_toList]; exact hw) (by rw [List.size_toArray]; omega)) ⟨e, ?_⟩
  refine ⟨y, _, I.lset (its' := its.eraseIdx k) hH e ?_ (r.eraseIdx k) ?_, rw', q⟩
  · show its.toArray.eraseIdxIfInBounds k = (its.eraseIdx k).toArray
    rw [List.eraseIdxIfInBounds_toArray]
  · have := len_erase xs k
    omega

def rReverse : V → List V → Hp → VK → Prop := fun x vs H Q => ∃ l xs, x = .ref l ∧ vs = [] ∧ H l = some (.lst xs) ∧ Q .non (upd H l (.lst xs.reverse))
theorem mt_reverse : MtM X "list.reverse" rReverse := by
  intro pins s σ H x vs v us Q I rx rv h
  obtain ⟨l, xs, rfl, rfl, hH, q⟩ := h
  cases rx
  have hus := rv.zero
  subst hus
  obtain ⟨z, its, n, r, hl, e⟩ := I.lstM hH
  refine call_meets F.slot_list_reverse ⟨_, e, rfl⟩ F.entry_list_reverse (F.args_list_reverse_1 _) (AutoSeq1.list_reverse_list_0 l its.toArray n (by rw [List.size_toArray]; omega)) ⟨e, ?_⟩
  refine ⟨.non, _, I.lset (its' := its.reverse) hH e (by simp) r.reverse ?_, rfl, q⟩
  rw [List.length_reverse]
  omega

def rClear : V → List V → Hp → VK → Prop := fun x vs H Q => ∃ l xs, x = .ref l ∧ vs = [] ∧ H l = some (.lst xs) ∧ Q .non (upd H l (.lst []))
theorem mt_clear : MtM X "list.clear" rClear := by
  intro pins s σ H x vs v us Q I rx rv h
  obtain ⟨l, xs, rfl, rfl, hH, q⟩ := h
  cases rx
  have hus := rv.zero
  subst hus
  obtain ⟨z, its, n, r, hl, e⟩ := I.lstM hH
  refine call_meets F.slot_list_clear ⟨_, e, rfl⟩ F.entry_list_clear (F.args_list_clear_1 _) (AutoSeq1.list_clear_list_0 l its.toArray n (by rw [List.size_toArray]; omega)) ⟨e, ?_⟩
  exact ⟨.non, _, I.lset (its' := []) (ys := []) hH e rfl .nil (Nat.zero_le _), rfl, q⟩

/-! ### list + list, list += list, list * int -/
def rCat : R2 := fun x y H Q => ∃ l b xs zs, x = .ref l ∧ y = .ref b ∧ H l = some (.lst xs) ∧ H b = some (.lst zs) ∧ xs.length + zs.length ≤ sizeLine ∧ ∀ p, H p = none → Q (.ref p) (upd H p (.lst (xs ++ zs)))
theorem op_cat : OpR X (binaryOp .Add) rCat := by
  intro pins s σ H x y v u Q I rx ry h
  obtain ⟨l, b, xs, zs, rfl, rfl, hH, hB, hz, q⟩ := h
  cases rx
  cases ry
  obtain ⟨z, its, n, r, hl, e⟩ := I.lstM hH
  obtain ⟨z2, its2, n2, r2, hl2, e2⟩ := I.lstM hB
  refine PySem.P.add_list e e2 ?_ (by rw [List.size_toArray, List.size_toArray]; omega)
  have ea : its.toArray ++ its2.toArray = (its ++ its2).toArray := by simp
  rw [ea]
  exact ⟨.ref _, _, I.lnew (t' := s.toks) (r.append r2) (by rw [List.length_append]; omega), rfl, q _ I.fresh⟩
/-- a list times an int (a negative one is nothing) -/
def rRep : R2 := fun x y H Q => ∃ l k xs, x = .ref l ∧ y = .int k ∧ H l = some (.lst xs) ∧ -(2 ^ 63) ≤ k ∧ k < 2 ^ 63 ∧ xs.length * k.toNat ≤ sizeLine ∧
  ∀ p, H p = none → Q (.ref p) (upd H p (.lst (List.replicate k.toNat xs).flatten))
theorem len_rep {α : Type} (xs : List α) (k : Nat) : (List.replicate k xs).flatten.length = k * xs.length := by
  induction k with
  | zero => simp
  | succ k ih => rw [List.replicate_succ, List.flatten_cons, List.length_append, ih, Nat.succ_mul, Nat.add_comm]
theorem op_rep : OpR X (binaryOp .Mult) rRep := by
  intro pins s σ H x y v u Q I rx ry h
  obtain ⟨l, k, xs, rfl, rfl, hH, h1, h2, hz, q⟩ := h
  cases rx
  obtain ⟨t, rfl⟩ := ry
  obtain ⟨z, its, n, r, hl, e⟩ := I.lstM hH
  have hlen : its.toArray.size * k.toNat ≤ sizeLine := by rw [List.size_toArray, ← hl]; exact hz
  have hcap : ¬ its.toArray.size * k.toNat > (2 ^ 63 - 1) / 8 := by
    have : (sizeLine : Nat) ≤ (2 ^ 63 - 1) / 8 := by decide
    omega
  have hfit : ¬ (!Builtin.List.listFitsIndex k) = true := by
    rw [fitsIndex_both h1 h2]
    exact Bool.false_ne_true
  have hlong : ¬ Builtin.List.listTooLong (its.toArray.size * k.toNat) = true := by
    rw [notLongL hlen]
    exact Bool.false_ne_true
  have hnew : List.foldl (fun x1 x2 => x1 ++ x2) #[] (List.replicate (if its.toArray.isEmpty = true then 0 else k.toNat) its.toArray) = (List.replicate k.toNat its).flatten.toArray := by
    have f0 : ∀ m : Nat, List.foldl (fun x1 x2 => x1 ++ x2) #[] (List.replicate m its.toArray) = (List.replicate m its).flatten.toArray := fun m => by
      have := foldl_rep its m []
      rw [List.nil_append] at this
      exact this
    rw [f0]
    cases its with
    | nil => simp
    | cons a r' => rw [if_neg (by simp)]
  refine wpAny_binaryOp_repeat_ref (T := "list") (U := "int") (by decide) ⟨_, e, rfl⟩ (fun s' => typeIs_int s' k t) noFill_list_mul F.fills_int_mul F.slot_int_rmul repeat_list F.slot_int_index.lookup
    (call_meets F.slot_int_rmul (typeIs_int s k t) F.entry_int_rmul (F.args_int_rmul_2 _ _) (int___rmul___int_list k t l its.toArray n)
      ⟨e, rfl, ⟨_, e, rfl⟩, call_meets F.slot_list_mul ⟨_, e, rfl⟩ F.entry_list_mul (F.args_list_mul_2 _ _) (AutoListH.list___mul___list_int_3 l its.toArray n k t hfit hcap hlong) ⟨e, ?_⟩⟩)
  rw [hnew]
  exact ⟨.ref _, _, I.lnew (t' := s.toks) (r.rep k.toNat) (by rw [len_rep, Nat.mul_comm]; exact hz), rfl, q _ I.fresh⟩

/-! ### del xs[i] -/
theorem del_list {pins : List (Addr × Obj)} {s : Shared} {σ : St} {H : Hp} {l : Addr} {xs : List V} {i : Int} {t : Tok} {k : Nat} {Q : Unit → Shared → Prop} (I : Inv X pins σ H s) (hH : H l = some (.lst xs))
    (h1 : -(2 ^ 63) ≤ i) (h2 : i < 2 ^ 63) (hk : seqIndex? i xs.length = some k) (h : ∀ s', Inv X pins σ (upd H l (.lst (xs.eraseIdx k))) s' → Q () s') :
    wpAny (model X.prog X.w) X.A (delItem (.ref l) (.int i t)) Q X.xe s := by
  obtain ⟨z, its, n, r, hl, e⟩ := I.lstM hH
  refine PySem.P.delItem_list (k := k) e (fitsIndex_both h1 h2) (by rw [List.size_toArray, ← hl]; exact hk) (h _ ?_) (by rw [List.size_toArray]; omega)
  refine I.lset (its' := its.eraseIdx k) (t' := s.toks) hH e ?_ (r.eraseIdx k) ?_
  · show its.toArray.eraseIdxIfInBounds k = (its.eraseIdx k).toArray
    rw [List.eraseIdxIfInBounds_toArray]
  · have := len_erase xs k
    omega
end

/-! ### xs[a:b] = ys -/
section
variable {prog : Program} {w : World} {A : Around} {E : Value → Shared → Prop} {s : Shared}
theorem splice_eq (its its2 : List Value) (a c : Nat) : its.toArray.extract 0 a ++ its2.toArray ++ its.toArray.extract c its.toArray.size = (its.take a ++ its2 ++ its.drop c).toArray := by
  apply Array.toList_inj.mp
  first
    | (simp
       exact List.take_of_length_le (by simp))
    | simp [List.take_of_length_le]
    | simp
theorem bounds_run {a c n : Nat} (hac : a ≤ c) (hc : c ≤ n) : sliceBounds (some (a : Int)) (some (c : Int)) none n = ((a : Int), (c : Int), 1) := by
  simp only [sliceBounds, Option.getD_none]
  have h1 : ¬ ((a : Int) < 0) := by omega
  have h2 : ¬ ((c : Int) < 0) := by omega
  simp only [h1, h2, if_false, show (1 : Int) > 0 by decide, if_true]
  congr 1
  · omega
  · congr 1; omega
set_option maxRecDepth 100000 in
/-- list.__setitem__ with a slice of step one and another list -/
theorem setItem_slice {l b sl : Addr} {items new : Array Value} {n n2 : Nat} {vl vu : Value} {a c : Nat} {Q : Unit → Shared → Prop}
    (e : s.heap.get? l = some { cls := .type "list", data := .seq items n }) (e2 : s.heap.get? b = some { cls := .type "list", data := .seq new n2 }) (hne : l ≠ b)
    (hs : s.heap.IsSliceOf sl vl vu .none) (pl : IsPart vl (some (a : Int))) (pu : IsPart vu (some (c : Int))) (hac : a ≤ c) (hc : c ≤ items.size)
    (hsz : items.size + new.size ≤ sizeLine) (h : Q () { s with heap := s.heap.update l (Obj.mapSeq fun xs => xs.extract 0 a ++ new ++ xs.extract c xs.size) }) :
    wpAny (model prog w) A (setItem (.ref l) (.ref sl) (.ref b)) Q E s := by
  have hl : s.heap.IsList l items := PySem.IsL.isList e
  have hb : s.heap.IsList b new := PySem.IsL.isList e2
  obtain ⟨os, hos, hcs, hds⟩ := id hs
  have hTs : s.TypeIs (.ref sl) "slice" := ⟨os, hos, hcs⟩
  have hstep : ¬ ((rawPart none == rawInt 0) = true) := Bool.false_ne_true
  have hsame : Builtin.List.listSameRef (.ref l) (.ref b) = false := by
    unfold Builtin.List.listSameRef
    exact beq_eq_false_iff_ne.mpr hne
  have hmax : (max (a : Int) (c : Int)).toNat = c := by omega
  have hz' : ((fun xs : Array Value => xs.extract 0 a ++ new ++ xs.extract c xs.size) items).size ≤ sizeLine + 1 := by
    simp only [Array.size_append, Array.size_extract]
    omega
  unfold setItem
  try with_reducible refine wpAny_holding ?_
  first | refine wpAny_bind (wpAny_pure ?_) | skip
  refine wpAny_bind (wpAny_sequenceKey hl.typeIs (by decide) ?_)
  refine wpAny_bind (wpAny_callSpecial?_slot (name := Str.ofString "__setitem__") hl.typeIs slot_list_setitem
    (wpAny_call_entry slot_list_setitem hl.typeIs entry_list_setitem ?_ (args_list_setitem _ _ _)))
  show wpAny _ _ (Builtin.List.listSubscript? (.ref sl) >>= _) _ _ s
  refine wpAny_bind ?_
  unfold Builtin.List.listSubscript?
  refine wpAny_bind (wpAny_specialOf hTs slice_no_index ?_)
  simp only [Option.isNone_none, if_true]
  refine wpAny_pure ?_
  show wpAny _ _ (typeOf (.ref sl) >>= _) _ _ s
  refine wpAny_bind (wpAny_typeOf hTs ?_)
  first
    | rw [if_neg (by decide)]
    | refine PySem.W.KFB.if_not (by decide) ?_
  rw [listSliceParts_eq]
  refine wpAny_bind (wpAny_bind (wpAny_field hos hds (x := .none) rfl (wpAny_bind (wpAny_listPart .none ?_))))
  rw [if_neg hstep]
  refine wpAny_bind (wpAny_field hos hds (x := vl) rfl (wpAny_bind (wpAny_listPart pl ?_)))
  refine wpAny_bind (wpAny_field hos hds (x := vu) rfl (wpAny_bind (wpAny_listPart pu (wpAny_pure ?_))))
  first
    | simp only [hsame, Bool.false_eq_true, if_false]
    | refine PySem.W.KFB.if_not hsame ?_
    | (dsimp only
       rw [if_neg (by rw [hsame]; exact Bool.false_ne_true)])
  refine wpAny_bind (m := Builtin.List.listAllItems (.ref b) "must assign iterable to extended slice") ?_
  unfold Builtin.List.listAllItems
  refine wpAny_bind (wpAny_typeOf hb.typeIs ?_)
  first
    | refine PySem.W.KFB.if_so (by decide) ?_
    | rw [if_pos (by decide)]
    | simp only [beq_self_eq_true, Bool.true_or, if_true]
  unfold Builtin.List.listItems
  refine wpAny_bind (wpAny_seqItems e2 rfl (wpAny_pure ?_))
  refine wpAny_bind (wpAny_bind (wpAny_seqItems e rfl (wpAny_pure ?_)))
  refine wpAny_bind (wpAny_of_eq ((sliceIndices_raw (some (a : Int)) (some (c : Int)) none items.size (by simp)).trans (congrArg (pure : Int × Int × Int → Sem (Int × Int × Int)) (bounds_run hac hc))) ?_)
  show wpAny _ _ (if ((1 : Int) == 1) = true then _ else _) _ _ s
  rw [if_pos (by decide)]
  refine wpAny_bind (wpAny_rule ?_)
  first
    | simp only [notLongL hsz, Bool.false_eq_true, if_false]
    | refine PySem.W.KFB.if_not (notLongL hsz) ?_
  first | refine wpAny_bind (wpAny_pure ?_) | skip
  show wpAny _ _ (updateSeq l (fun xs => xs.extract 0 ((a : Int)).toNat ++ new ++ xs.extract (max (a : Int) (c : Int)).toNat xs.size) >>= _) _ _ s
  rw [hmax, Int.toNat_natCast]
  refine wpAny_bind (wpAny_updateSeq (hz := Nat.le_trans (Nat.le_add_right _ _) hsz) (_hz' := hz') e rfl ?_)
  refine wpAny_bind (wpAny_letGo ?_)
  first
    | exact wpAny_bind (wpAny_pure (wpAny_pure ⟨.none, rfl, wpAny_pure h⟩))
    | exact wpAny_pure ⟨.none, rfl, wpAny_pure h⟩
end

section
variable {X : Cx}
/-- xs[a:c] = ys of another list, at the value level: sl is the slice object that was just made -/
theorem set_slice {pins : List (Addr × Obj)} {s : Shared} {σ : St} {H : Hp} {l b sl : Addr} {xs ys : List V} {a c : Int} {vl vu : Value} {Q : Unit → Shared → Prop} (I : Inv X pins σ H s)
    (hH : H l = some (.lst xs)) (hB : H b = some (.lst ys)) (hne : l ≠ b) (hs : s.heap.IsSliceOf sl vl vu .none) (ra : RelV (.int a) vl) (rc : RelV (.int c) vu) (h0 : 0 ≤ a) (hac : a ≤ c) (hc : c ≤ xs.length)
    (hz : xs.length + ys.length ≤ sizeLine) (h : ∀ s', Inv X pins σ (upd H l (.lst (xs.take a.toNat ++ ys ++ xs.drop c.toNat))) s' → Q () s') :
    wpAny (model X.prog X.w) X.A (setItem (.ref l) (.ref sl) (.ref b)) Q X.xe s := by
  obtain ⟨ta, rfl⟩ := ra
  obtain ⟨tc, rfl⟩ := rc
  obtain ⟨z, its, n, r, hl, e⟩ := I.lstM hH
  obtain ⟨z2, its2, n2, r2, hl2, e2⟩ := I.lstM hB
  obtain ⟨a', rfl⟩ := Int.eq_ofNat_of_zero_le h0
  obtain ⟨c', rfl⟩ := Int.eq_ofNat_of_zero_le (Int.le_trans h0 hac)
  simp only [Int.toNat_natCast] at h
  refine setItem_slice (a := a') (c := c') e e2 hne hs (.int _ _) (.int _ _) (by omega) (by rw [List.size_toArray]; omega) (by rw [List.size_toArray, List.size_toArray]; omega) (h _ ?_)
  refine I.lset (its' := its.take a' ++ its2 ++ its.drop c') (t' := s.toks) hH e ?_ (Vals.append (Vals.append (r.take _) r2) (r.drop _)) ?_
  · exact splice_eq its its2 a' c'
  · rw [List.length_append, List.length_append, List.length_take, List.length_drop]
    omega
end
end L2

namespace Att
open PySem PySem.W PySem.Calls PyProof.Rows

/-! ### the script -/
theorem ints_of_wellAll {P : Params} {h : Heap} : ∀ (ns : List Int) (vs : List Value), WellAll P h vs (ns.map WData.int) → IntsAre vs ns := by
  intro ns
  induction ns with
  | nil =>
    intro vs w
    rw [List.map_nil] at w
    cases w
    exact .nil
  | cons n ns ih =>
    intro vs w
    rw [List.map_cons] at w
    cases w with
    | cons a b =>
      cases a
      exact .cons _ _ (ih _ b)

theorem script_of {l : OpenLaw} {n : Nat} (hn : l.most = some n) {P : Params} {h : Heap} {args : List WData} {vals : List Value}
    (hpre : l.row.toRowW.claim.pre args = true) (hwl : WellAll P h vals args) :
    ∃ a vs ns, vals = [Value.ref a] ∧ args = [WData.list (ns.map WData.int)] ∧ h.get? a = some { cls := .type "list", data := .seq vs.toArray } ∧ IntsAre vs ns ∧ ns.length ≤ n := by
  have hsh : WShape.hasAll [] args [.list .int] = true := (pre_splitW hpre).1
  have hc : l.pre.holds [] { args := args } = true := (pre_splitW hpre).2
  obtain ⟨d, r, rfl, h1, h2⟩ := hasAllW_cons hsh
  obtain rfl := hasAllW_nil h2
  obtain ⟨xs, rfl, h3⟩ := hasW_list h1
  obtain ⟨ns, rfl⟩ := items_int h3
  have hlen : ns.length ≤ n := by
    unfold OpenLaw.pre at hc
    have h4 : (WTm.not (.lt (.lit (.int (n : Int))) (.len (.arg 0)))).holds [] { args := [.list (ns.map .int)] } = true := by
      have h4 := (holds_andW hc).1
      rw [hn] at h4
      exact h4
    have h5 := condW_of h4 (w_not (w_lt w_lit (w_len_list (w_arg rfl))))
    rw [List.length_map] at h5
    refine Nat.le_of_not_lt fun q => ?_
    have q' : (n : Int) < ((ns.length : Nat) : Int) := by omega
    first
      | (rw [decide_eq_true q'] at h5; exact absurd h5 (by decide))
      | (simp at h5; omega)
  cases hwl with
  | cons w1 w2 =>
    cases w2
    cases w1 with
    | list ho hall => exact ⟨_, _, ns, rfl, rfl, ho, ints_of_wellAll ns _ hall, hlen⟩

theorem post_true (l : OpenLaw) (args : List WData) : l.row.toRowW.claim.post args (.bool true) args = true :=
  postW_of (r := l.row.toRowW) (X := (true == true))
    (show WShape.has [] (.bool true) .bool = true by first | rfl | decide | simp [WShape.has, WShape.arms, WShape.armsAll])
    (show (WTm.eq .res (.lit (.bool true))).value [] { args := args, res := some (.bool true), after := args } = some (.bool (true == true)) from w_eq_bool (w_res rfl) w_lit) rfl

/-! ### the attachment: holds_open's last premise (the goal 'hc' behind k_head) from a wpAny of the law's body -/
theorem attach {l : OpenLaw} {n : Nat} {q : Program} {loose : List Str} {XP : (Str → Option Value) → Heap → Prop} {YP : World → Heap → Prop} {d : DefRec} {x : Str}
    (hn : l.most = some n) (hdf : d.params.defaults = [])
    (hbind : ∀ pm cd doc v : Value, bindArgs (docDef d.name d.params d.body d.scope pm cd doc) ⟨[v], []⟩ = pure [(x, v)])
    (hx : d.scope.names.lookup x = some .local ∨ d.scope.names.lookup x = some .cell)
    (hk : d.scope.kind = .function) (hco : d.scope.isCoroutine = false) (hgen : d.scope.isGenerator = false)
    (body : ∀ (w : World) (s₀ s₁ s : Shared) (mg mb : Str → Option Value) (fa : Addr) (o : Obj) (pm cd doc : Value) (a : Addr) (vs : List Value) (ns : List Int),
      Ground q loose [] XP w s₀ mg mb s₁.heap → YP w s₁.heap →
      s₁.heap.get? fa = some o → o.data = .func (docDef d.name d.params d.body d.scope pm cd doc) → s₁.heap.CodeRec cd d.name → mg d.name = some (.ref fa) →
      s₁.heap.get? a = some { cls := .type "list", data := .seq vs.toArray } → IntsAre vs ns → ns.length ≤ n →
      s.gens = #[] → s.os = s₁.os →
      Fr s₁.heap s₁.heap.objs.size s.heap (bindL (envOfC d.name d.scope s₁.heap.objs.size fa cd).kindOf [(x, .ref a)] fun _ => none) →
      Cl s₁.heap.objs.size (cellsFrom (s₁.heap.objs.size + 1) d.scope.names []) s.heap (bindC (envOfC d.name d.scope s₁.heap.objs.size fa cd).kindOf [(x, .ref a)] fun _ => none) →
      wpAny (model l.prog w) (callerA.deeper (envOfC d.name d.scope s₁.heap.objs.size fa cd)) (execs d.body (envOfC d.name d.scope s₁.heap.objs.size fa cd))
        (fun f s' => f = .ret (.bool true) ∧ OldK s₁.heap s'.heap ∧ s'.os = s₁.os ∧ AllBare s'.gens) (fun _ _ => False) s) :
    WalkO q loose XP YP l.row.toRowW d [] (fun f vs => PySem.call f vs) := by
  intro w s₀ s₁ mg mb G Y fa o pm cd doc dV kV ho hd hcd hD hmg hg args vals as hpre hlay hrd hwl hlo
  obtain rfl : dV = .none := Dflts.none hD hdf
  obtain rfl : kV = .none := Dflts.noKw hD
  obtain ⟨a, vs, ns, rfl, rfl, hobj, hints, hlen⟩ := script_of hn hpre hwl
  refine enter_call ?_
  refine call_cells_ret (o := o) (by rw [depth_caller]; decide) ho (fd_plain hd) G.T.nolimit hcd (hbind pm cd doc (.ref a)) (fun y hy => ?_) (fun h₁ tk F X => ?_) hco hgen hk
  · obtain rfl : y = (x, Value.ref a) := List.mem_singleton.mp hy
    rcases hx with e | e
    · exact .inl e
    · exact .inr ⟨e, cellsFrom_some _ _ _ (.inl e)⟩
  · refine wpAny_mono (body w s₀ s₁ { s₁ with heap := h₁, toks := tk } mg mb fa o pm cd doc a vs ns G Y ho (fd_plain hd) hcd hmg hobj hints hlen hg rfl F X) (fun f s' hq => ?_) (fun _ _ hq => hq)
    obtain ⟨rfl, h2, h3, h4⟩ := hq
    exact ⟨.inl ⟨.bool true, .bool true, [], rfl, fun _ => rfl, .bool true, post_true l _, fun _ => ⟨List.Pairwise.nil, fun _ hm => (nomatch hm)⟩⟩, h2, h3, h4⟩

/-- the same from a codeAny of the CALL (for a layer whose function contracts speak of calls) -/
theorem attach_call {l : OpenLaw} {n : Nat} {q : Program} {loose : List Str} {XP : (Str → Option Value) → Heap → Prop} {YP : World → Heap → Prop} {d : DefRec}
    (hn : l.most = some n) (hdf : d.params.defaults = [])
    (call : ∀ (w : World) (s₀ s₁ : Shared) (mg mb : Str → Option Value) (fa : Addr) (o : Obj) (pm cd doc : Value) (a : Addr) (vs : List Value) (ns : List Int),
      Ground q loose [] XP w s₀ mg mb s₁.heap → YP w s₁.heap →
      s₁.heap.get? fa = some o → o.data = .func (docDef d.name d.params d.body d.scope pm cd doc) → s₁.heap.CodeRec cd d.name → mg d.name = some (.ref fa) →
      s₁.heap.get? a = some { cls := .type "list", data := .seq vs.toArray } → IntsAre vs ns → ns.length ≤ n → s₁.gens = #[] →
      codeAny (model l.prog w) callerA (.call (.ref fa) ⟨[.ref a], []⟩) (fun r s' => r = .ok (.ret (.bool true)) ∧ OldK s₁.heap s'.heap ∧ s'.os = s₁.os ∧ AllBare s'.gens) s₁) :
    WalkO q loose XP YP l.row.toRowW d [] (fun f vs => PySem.call f vs) := by
  intro w s₀ s₁ mg mb G Y fa o pm cd doc dV kV ho hd hcd hD hmg hg args vals as hpre hlay hrd hwl hlo
  obtain rfl : dV = .none := Dflts.none hD hdf
  obtain rfl : kV = .none := Dflts.noKw hD
  obtain ⟨a, vs, ns, rfl, rfl, hobj, hints, hlen⟩ := script_of hn hpre hwl
  refine enter_call (codeAny_mono (call w s₀ s₁ mg mb fa o pm cd doc a vs ns G Y ho (fd_plain hd) hcd hmg hobj hints hlen hg) fun r s' hq => ?_)
  obtain ⟨rfl, h2, h3, h4⟩ := hq
  exact ⟨.inl ⟨.bool true, .bool true, [], rfl, fun _ => rfl, .bool true, post_true l _, fun _ => ⟨List.Pairwise.nil, fun _ hm => (nomatch hm)⟩⟩, h2, h3, h4⟩

/-- the same where the top left finished generators (o_head chose holds_openN): nothing may have changed at all and no generator may be left -/
theorem attachN {l : OpenLaw} {n : Nat} {q : Program} {loose : List Str} {XP : (Str → Option Value) → Heap → Prop} {YP : World → Heap → Prop} {d : DefRec} {x : Str}
    (hn : l.most = some n) (hdf : d.params.defaults = [])
    (hbind : ∀ pm cd doc v : Value, bindArgs (docDef d.name d.params d.body d.scope pm cd doc) ⟨[v], []⟩ = pure [(x, v)])
    (hx : d.scope.names.lookup x = some .local ∨ d.scope.names.lookup x = some .cell)
    (hk : d.scope.kind = .function) (hco : d.scope.isCoroutine = false) (hgen : d.scope.isGenerator = false)
    (body : ∀ (w : World) (s₀ s₁ s : Shared) (mg mb : Str → Option Value) (fa : Addr) (o : Obj) (pm cd doc : Value) (a : Addr) (vs : List Value) (ns : List Int),
      Ground q loose [] XP w s₀ mg mb s₁.heap → YP w s₁.heap →
      s₁.heap.get? fa = some o → o.data = .func (docDef d.name d.params d.body d.scope pm cd doc) → s₁.heap.CodeRec cd d.name → mg d.name = some (.ref fa) →
      s₁.heap.get? a = some { cls := .type "list", data := .seq vs.toArray } → IntsAre vs ns → ns.length ≤ n →
      s.gens = #[] → s.os = s₁.os →
      Fr s₁.heap s₁.heap.objs.size s.heap (bindL (envOfC d.name d.scope s₁.heap.objs.size fa cd).kindOf [(x, .ref a)] fun _ => none) →
      Cl s₁.heap.objs.size (cellsFrom (s₁.heap.objs.size + 1) d.scope.names []) s.heap (bindC (envOfC d.name d.scope s₁.heap.objs.size fa cd).kindOf [(x, .ref a)] fun _ => none) →
      wpAny (model l.prog w) (callerA.deeper (envOfC d.name d.scope s₁.heap.objs.size fa cd)) (execs d.body (envOfC d.name d.scope s₁.heap.objs.size fa cd))
        (fun f s' => f = .ret (.bool true) ∧ (∀ b o, s₁.heap.get? b = some o → s'.heap.get? b = some o) ∧ s'.os = s₁.os ∧ s'.gens = #[]) (fun _ _ => False) s) :
    WalkN q loose XP YP l.row.toRowW d [] (fun f vs => PySem.call f vs) := by
  intro w s₀ s₁ mg mb G Y fa o pm cd doc dV kV ho hd hcd hD hmg hg args vals as hpre hlay hrd hwl hlo
  obtain rfl : dV = .none := Dflts.none hD hdf
  obtain rfl : kV = .none := Dflts.noKw hD
  obtain ⟨a, vs, ns, rfl, rfl, hobj, hints, hlen⟩ := script_of hn hpre hwl
  refine enter_callW ?_
  refine call_cells_ret (o := o) (by rw [depth_caller]; decide) ho (fd_plain hd) G.T.nolimit hcd (hbind pm cd doc (.ref a)) (fun y hy => ?_) (fun h₁ tk F X => ?_) hco hgen hk
  · obtain rfl : y = (x, Value.ref a) := List.mem_singleton.mp hy
    rcases hx with e | e
    · exact .inl e
    · exact .inr ⟨e, cellsFrom_some _ _ _ (.inl e)⟩
  · refine wpAny_mono (body w s₀ s₁ { s₁ with heap := h₁, toks := tk } mg mb fa o pm cd doc a vs ns G Y ho (fd_plain hd) hcd hmg hobj hints hlen hg rfl F X) (fun f s' hq => ?_) (fun _ _ hq => hq)
    obtain ⟨rfl, h2, h3, h4⟩ := hq
    exact ⟨.inl ⟨.bool true, .bool true, [], rfl, fun _ => rfl, .bool true, post_true l _, fun _ => ⟨List.Pairwise.nil, fun _ hm => (nomatch hm)⟩⟩, h2, h3, h4⟩

/-! ### rules over ANY heap (no ledger) from facts about the written part K: the library's own take a ledger (News) for what they write -/
section
variable {prog : Program} {w : World} {A : Around} {E : Value → Shared → Prop} {s : Shared} {K : Frag}

/-- a def of the module, or a method (qual 'C.m'), entered: the frame is the next address; cells behind it -/
theorem call_fn {R : Result → Shared → Prop} {name qual : Str} {params : Arguments} {body : List Stmt} {scope : Scope} {dV kV doc pm cdv ct oc : Value} {an od : Option Addr} {osl : Array (Option Value)} {f : Addr} {args : Args} {binds : List (Str × Value)}
    (X : K.In s.heap) (hlim : s.heap.NoLimit) (ho : K.lookup f = some ⟨oc, od, .func (fnOf name qual params body scope dV kV doc pm an cdv ct), osl⟩) (hcd : codeIn K cdv qual = true) (hroom : A.depth < recursionLimit)
    (hbind : BindsTo s (fnOf name qual params body scope dV kV doc pm an cdv ct) args binds)
    (hkind : (binds.all fun y => scope.names.lookup y.1 == some .local || scope.names.lookup y.1 == some .cell) = true)
    (h : ∀ s₁, InCallC s s.heap.objs.size (bindL (envOfC qual scope s.heap.objs.size f cdv).kindOf binds fun _ => none) (cellsFrom (s.heap.objs.size + 1) scope.names [])
        (bindC (envOfC qual scope s.heap.objs.size f cdv).kindOf binds fun _ => none) s₁ →
      wpAny (model prog w) (A.deeper (envOfC qual scope s.heap.objs.size f cdv)) (execs body (envOfC qual scope s.heap.objs.size f cdv))
        (fun fl s' => R (.ok (.ret (match fl with | .ret v => v | _ => .none))) s')
        (fun e s' => wpAny (model prog w) (A.deeper (envOfC qual scope s.heap.objs.size f cdv)) (leaving (envOfC qual scope s.heap.objs.size f cdv) e) (fun _ s'' => R (.error e) s'') (fun e' s'' => R (.error e') s'') s') s₁)
    (hco : scope.isCoroutine = false) (hgen : scope.isGenerator = false) (hk : scope.kind = .function) : codeAny (model prog w) A (.call (.ref f) args) R s := by
  refine codeAny_call_function hroom (X _ _ ho) rfl hco hgen rfl (codeRec_of X hcd) (hbind _ _ _ _ ?_)
  refine wpAny_newFunctionEnv_cells hk (kindsX hkind _) fun env he s₁ x => ?_
  subst he
  exact ⟨hlim.keeps x.toInCall.keep, codeAny_func (h s₁ x)⟩

/-- C(..): dict at size, instance at size + 1, then __init__ -/
theorem make_obj {R : Result → Shared → Prop} {C fI : Addr} {rest : List Value} {kw : List (Str × Value)}
    (X : K.In s.heap) (hm : makesIn K C = true) (hi : findIn K (.ref C) "__init__" = some (some (.ref fI))) (hf : isFn K (.ref fI) = true)
    (h : codeAny (model prog w) (A.under (.builtin "type.__call__" ⟨.ref C :: rest, kw⟩)) (.call (.ref fI) ⟨.ref (s.heap.objs.size + 1) :: rest, kw⟩) (InitBack (s.heap.objs.size + 1) R)
      { s with heap := (s.heap.push emptyDict).push (instObj C s.heap.objs.size) }) : codeAny (model prog w) A (.call (.ref C) ⟨rest, kw⟩) R s := by
  obtain ⟨hh, g, d, t, os⟩ := s
  exact make_core (makes_of X hm) (looks_findIn X hi) (fun self => bind_fn X self (beq_iff_eq.mp hf)) (.inl rfl) h

/-- x.name where the instance's dict holds the name and the class does not -/
theorem get_field {x C : Addr} {ox : Obj} {es : List DictEntry} {n : Nat} {name : Str} {expr : Bool} {v : Value} {Q : Value → Shared → Prop}
    (X : K.In s.heap) (I : PySem.W.InstAt s.heap x ox C (some (dictOf es n))) (hg : plainGet K C name = true) (hh : hasDictIn K C = true) (ha : findIn K (.ref C) name = some none)
    (hl : getL name es = some (some v)) (hv : handedIn v = true) (h : Q v { s with toks := s.toks + 1 }) : wpAny (model prog w) A (getAttr (.ref x) name expr) Q E s :=
  get_value X I (plainGet_of hg).1 (findObj_own hh ha rfl hl) hv h

/-- x.m(..): the method found in the class -/
theorem get_method {x C f : Addr} {ox : Obj} {es : List DictEntry} {n : Nat} {name : Str} {pl : Sem Bool} {Q : Value × List Value → Shared → Prop}
    (X : K.In s.heap) (I : PySem.W.InstAt s.heap x ox C (some (dictOf es n))) (hg : plainGet K C name = true) (hf : findIn K (.ref C) name = some (some (.ref f))) (ht : isFn K (.ref f) = true)
    (hl : getL name es = some none) (h : Q (.ref f, [.ref x]) s) : wpAny (model prog w) A (getMethod (.ref x) name pl) Q E s :=
  method_fn X I (plainGet_of hg).1 (plainGet_of hg).2 hf (beq_iff_eq.mp ht) (by show (lookIn name (dictOf es n)).map _ = _; rw [lookIn_dict, hl]; rfl) h

/-! the whole heap as the ledger: makes every rule that writes through a ledger a rule over any heap -/
def noObjs (h : Heap) : Heap := { h with objs := #[] }
theorem noObjs_get (h : Heap) (b : Addr) : (noObjs h).get? b = none := by
  cases e : (noObjs h).get? b with
  | none => rfl
  | some o => exact absurd (Heap.lt_size e) (Nat.not_lt_zero _)
def ledger (h : Heap) (L d : Addr) : List (Addr × Obj) := (List.range h.objs.size).filterMap fun a => if a = L ∨ a = d then none else (h.get? a).map fun o => (a, o)
theorem mem_ledger {h : Heap} {L d a : Addr} {o : Obj} : (a, o) ∈ ledger h L d ↔ a ≠ L ∧ a ≠ d ∧ h.get? a = some o := by
  unfold ledger
  rw [List.mem_filterMap]
  constructor
  · rintro ⟨b, _, e⟩
    split at e
    · cases e
    · rename_i hb
      obtain ⟨o', ho, e'⟩ := Option.map_eq_some_iff.mp e
      cases e'
      exact ⟨fun q => hb (.inl q), fun q => hb (.inr q), ho⟩
  · rintro ⟨n1, n2, ho⟩
    refine ⟨a, List.mem_range.mpr (Heap.lt_size ho), ?_⟩
    rw [if_neg (show ¬ (a = L ∨ a = d) from fun q => q.elim n1 n2), ho] <;> rfl
theorem news_ledger {h : Heap} {L d : Addr} {od : Obj} (hne : d ≠ L) (ho : h.get? d = some od) : News (noObjs h) L h ([] ++ (d, od) :: ledger h L d) := by
  rintro ⟨a, o⟩ hp
  rcases List.mem_cons.mp hp with e | hp
  · cases e
    exact ⟨ho, hne, noObjs_get _ _⟩
  · obtain ⟨n1, n2, e⟩ := mem_ledger.mp hp
    exact ⟨e, n1, noObjs_get _ _⟩
theorem fr_all {h : Heap} {L : Addr} {m : Str → Option Value} (n : h.Ns L m) : Fr (noObjs h) L h m :=
  ⟨n, fun b o e => (by rw [noObjs_get] at e; cases e), Nat.zero_le _⟩
/-- Upd of the head entry (for append_K, setItem_K ..) -/
theorem upd_ledger {h : Heap} {L d : Addr} {o o' : Obj} : Upd d o o' ((d, o) :: ledger h L d) ((d, o') :: ledger h L d) :=
  .head fun ⟨_, _⟩ hp => (mem_ledger.mp hp).2.1

/-- x.name = v over any heap: L is any namespace of the heap (the frame's, say): its map stays, its object is not told; all else but the dict stays -/
theorem set_field {x C dx L : Addr} {ox : Obj} {m : Str → Option Value} {es es' : List DictEntry} {n n' : Nat} {name : Str} {v : Value} {Q : Unit → Shared → Prop}
    (X : K.In s.heap) (I : PySem.W.InstAt s.heap x ox C (some (dictOf es n))) (hd : ox.dict = some dx) (hL : s.heap.Ns L m) (hne : dx ≠ L)
    (hs : findIn K (.ref C) "__setattr__" = some (some (.builtin "object.__setattr__"))) (hp : plainOver K C = true) (ht : takerIn K C name = some none) (hh : hasDictIn K C = true) (hl : (getL name es).isSome = true)
    (e : (putL name (PyData.keyHash w.params name) (.str name (s.toks + 1)) v es, putN name es n) = (es', n')) (hz : es'.length ≤ 1000)
    (h : ∀ h' : Heap, h'.Ns L m → h'.get? dx = some (dictOf es' n') → (∀ b o, b ≠ dx → b ≠ L → s.heap.get? b = some o → h'.get? b = some o) → Q () { s with heap := h', toks := s.toks + 2 }) :
    wpAny (model prog w) A (setAttr (.ref x) name v) Q E s := by
  obtain ⟨e1, e2⟩ := Prod.mk.inj e
  have hdx : s.heap.get? dx = some (dictOf es n) := by
    have := I.dict
    rw [hd] at this
    exact this
  refine set_plain X I hs (osa_dict (s := { s with toks := s.toks + 1 }) (h₀ := noObjs s.heap) (L := L) (m := m) (od := dictOf es n) (od' := dictOf es' n') (es := es') (n := n') (pre := []) (post := ledger s.heap L dx)
    (fr_all hL) (news_ledger hne hdx) X I hd hp ht hh hl (fun _ q => nomatch q) (fun ⟨_, _⟩ q => (mem_ledger.mp q).2.1) (by rw [putName_dict, e1, e2]) rfl hz fun h' F' N' => ?_)
  exact h h' F'.ns (N'.get (List.Mem.head _)) fun b o n1 n2 ho => N'.get (List.Mem.tail _ (mem_ledger.mpr ⟨n2, n1, ho⟩))
end
end Att

namespace L2
open PySem PySem.Spec PyProof.Rows

theorem vals_ints : ∀ {vs : List Value} {ns : List Int}, IntsAre vs ns → Vals (ns.map V.int) vs
  | _, _, .nil => .nil
  | _, _, .cons n t h => .cons ⟨t, rfl⟩ (vals_ints h)

/-- nothing is tracked but the script, known to the object (or it is an object of the module) -/
def Only (H : Hp) : Prop := ∀ b, H b = none ∨ ∃ o xs, H b = some (.frz o (.lst xs))

/-- THE HEAD: the law's promise, at the heap behind the top. F, the promise of the law's def, may use that base is part of the heap (so K.In base, base.Ns mainGlobals mg stand in Mod) -/
theorem law_call {P : Program} {w : World} {K : PySem.W.Frag} {mg mb : Str → Option Value} {CX : CXT} {k : Nat} {fa a : Addr} {fd : FuncData} {x : Str} {sp : Sp} {s₁ : Shared} {vs : List Value} {ns : List Int}
    (KX : K.In s₁.heap) (hns : s₁.heap.Ns mainGlobals mg) (hb : s₁.heap.Ns builtinsNs mb) (hbb : ∀ x : Str, x ≠ "__name__" → mb x = bootBuiltins x) (hlim : s₁.heap.NoLimit) (hg : s₁.gens = #[])
    (ha : s₁.heap.get? a = some { cls := .type "list", data := .seq vs.toArray }) (hi : IntsAre vs ns) (hl : ns.length ≤ sizeLine) (hr : Room k callerA)
    (F : ∀ base : Heap, K.In base → base.Ns mainGlobals mg → FnOk P w K mg base CX k fa fd [x] sp) (hbind : ∀ (s : Shared) (u : Value), BindsTo s fd ⟨[u], []⟩ [(x, u)])
    (hsp : ∀ H : Hp, Only H → SqL K H a (ns.map V.int) → sp [.ref a] H (fun v _ => v = .bl true) fun _ _ _ => False)
    (hCX : ∀ H e s', CX [] H s₁ (fun _ _ _ => False) e s' → False) :
    codeAny (model P w) callerA (.call (.ref fa) ⟨[.ref a], []⟩) (fun r s' => r = .ok (.ret (.bool true)) ∧ OldK s₁.heap s'.heap ∧ s'.os = s₁.os ∧ AllBare s'.gens) s₁ := by
  have rv := vals_ints hi
  have lenV := hi.length
  -- from an abstract heap in which nothing but the script may be tracked
  have core : ∀ H : Hp, Only H → SqL K H a (ns.map V.int) → HOk P w H s₁.heap → (∀ b, H b ≠ none → b = a) → (H a ≠ none → K.lookup a = none) →
      codeAny (model P w) callerA (.call (.ref fa) ⟨[.ref a], []⟩) (fun r s' => r = .ok (.ret (.bool true)) ∧ OldK s₁.heap s'.heap ∧ s'.os = s₁.os ∧ AllBare s'.gens) s₁ := by
    intro H hO hS hok hA hK
    have base_of : ∀ {b : Addr} {o : Obj}, s₁.heap.get? b = some o → H b = none → (hidT s₁.heap H).get? b = some o := fun e n => hidT_get e n
    have noA : ∀ {b : Addr} {o : Obj} {es : Array DictEntry} {ep : Nat}, s₁.heap.get? b = some o → o.data = .dict es ep → H b = none := fun {b o es ep} e d => by
      cases q : H b with
      | none => rfl
      | some u =>
        have e' : b = a := hA b (by rw [q]; simp)
        subst e'
        rw [ha] at e; cases e
        have d' : Data.seq vs.toArray _ = Data.dict es ep := d
        cases d'
    have nsK : ∀ {b : Addr} {m : Str → Option Value}, s₁.heap.Ns b m → (hidT s₁.heap H).Ns b m := fun {b m} ⟨o, es, ep, e, d, r⟩ => ⟨o, es, ep, base_of e (noA e d), d, r⟩
    have hKb : K.In (hidT s₁.heap H) := fun b o e => base_of (KX b o e) (by
      cases q : H b with
      | none => rfl
      | some u =>
        have e' : b = a := hA b (by rw [q]; simp)
        subst e'
        rw [hK (by rw [q]; simp)] at e; cases e)
    have hM : Mod K mg (hidT s₁.heap H) := ⟨hKb, nsK hns, ⟨mb, nsK hb, hbb⟩, let ⟨mc, h1, h2⟩ := hlim; ⟨mc, nsK h1, h2⟩⟩
    have e0 : Env0 P w K mg (hidT s₁.heap H) callerA [] s₁ H := ⟨rfl, hM, fun b o e => of_hidT e, Nat.le_of_eq (hidT_size _ _), trivial, fun b hb => absurd (show b ∈ ([] : List Addr) from hb) (by simp), hok, .of_eq hg⟩
    refine codeAny_mono ((F _ hKb (nsK hns)).run callerA [] s₁ H ⟨[.ref a], []⟩ [.ref a] [.ref a] _ _ hr e0 (hbind s₁ (.ref a)) (.cons rfl .nil) (hsp H hO hS)) fun r s' h => ?_
    cases r with
    | error e => exact (hCX H e s' h).elim
    | ok fl =>
      cases fl with
      | next => exact False.elim h
      | brk => exact False.elim h
      | cont => exact False.elim h
      | ret u =>
        obtain ⟨v, H', os, bare, un, hok', r', q⟩ := h
        have q' : v = .bl true := q
        subst q'
        obtain rfl : u = Value.bool true := r'
        refine ⟨rfl, OldK.of_keep fun b o e => ?_, os, bare⟩
        cases q : H b with
        | none => exact un.keep b o e q (by intro z; exact absurd (show b ∈ ([] : List Addr) from z) (by simp)) (by simp)
        | some u =>
          rcases hO b with z | ⟨ob, xs, z⟩
          · rw [q] at z; cases z
          · have z2 := un.frzs b ob _ z
            obtain ⟨e1, _⟩ := hok b _ z
            obtain ⟨e2, _⟩ := hok' b _ z2
            rw [e] at e1; cases e1
            exact e2
  cases hk : K.lookup a with
  | some o =>
    -- the script is one of the module's own objects
    have e := KX a o hk
    rw [ha] at e
    cases e
    refine core (fun _ => none) (fun _ => .inl rfl) (.inr ⟨_, vs.toArray, _, hk, rfl, rfl, rfl, by rw [List.size_toArray, lenV]; exact hl, by simpa using rv⟩) (fun b u z => by have z' : (none : Option HO) = some u := z; cases z') (fun b z => absurd rfl z) fun z => absurd rfl z
  | none =>
    refine core (fun b => if b = a then some (.frz { cls := .type "list", data := .seq vs.toArray } (.lst (ns.map V.int))) else none) (fun b => ?_) (.inl (.inr ⟨{ cls := .type "list", data := .seq vs.toArray }, if_pos rfl⟩)) (fun b u z => ?_) (fun b z => ?_) fun _ => hk
    · by_cases hb : b = a
      · exact .inr ⟨_, _, if_pos hb⟩
      · exact .inl (if_neg hb)
    · by_cases hb : b = a
      · have z' := (if_pos hb).symm.trans z
        cases z'
        subst hb
        exact ⟨ha, by rw [List.length_map]; exact hl, vs, _, rv, ha⟩
      · have z' := (if_neg hb).symm.trans z
        cases z'
    · by_cases hb : b = a
      · exact hb
      · exact absurd (if_neg hb) z
end L2

namespace L2
open PySem PySem.Spec PyProof.Rows

abbrev KOf {K : PySem.W.Frag} {h : Heap} (_ : K.In h) : PySem.W.Frag := K

/-- the goal that k_head leaves (case hc), from the law's promise. F gives the function object fd (K's own) once, then the promise over every base -/
theorem walk_of {l : PySem.W.OpenLaw} {n k : Nat} {q : Program} {loose : List Str} {XP : (Str → Option Value) → Heap → Prop} {YP : World → Heap → Prop} {d : DefRec} {K : Params → PySem.W.Frag} {CX : World → CXT} {sp : World → Sp} {x : Str}
    (hn : l.most = some n) (hn2 : n ≤ sizeLine) (hdf : d.params.defaults = []) (hr : Room k callerA)
    (hY : ∀ (w : World) (h : Heap), YP w h → (K w.params).In h)
    (F : ∀ (w : World) (mg : Str → Option Value) (fa : Addr) (h : Heap), (K w.params).In h → h.Ns mainGlobals mg → mg d.name = some (.ref fa) →
      ∃ fd : FuncData, (∀ (s : Shared) (u : Value), BindsTo s fd ⟨[u], []⟩ [(x, u)]) ∧
        ∀ base : Heap, (K w.params).In base → base.Ns mainGlobals mg → FnOk l.prog w (K w.params) mg base (CX w) k fa fd [x] (sp w))
    (hsp : ∀ (w : World) (H : Hp) (a : Addr) (ns : List Int), ns.length ≤ n → Only H → SqL (K w.params) H a (ns.map V.int) → sp w [.ref a] H (fun v _ => v = .bl true) fun _ _ _ => False)
    (hCX : ∀ (w : World) (H : Hp) (s : Shared) (e : Value) (s' : Shared), CX w [] H s (fun _ _ _ => False) e s' → False) :
    PySem.W.WalkO q loose XP YP l.row.toRowW d [] (fun f vs => PySem.call f vs) := by
  refine Att.attach_call hn hdf fun w s₀ s₁ mg mb fa o pm cd doc a vs ns G Y ho hd hcd hmg hobj hints hlen hg => ?_
  have KX := hY w _ Y
  obtain ⟨fd, hb, hF⟩ := F w mg fa _ KX G.T.g hmg
  exact law_call KX G.T.g G.T.b G.T.builtins G.T.nolimit hg hobj hints (Nat.le_trans hlen hn2) hr hF hb (fun H hO hS => hsp w H a ns hlen hO hS) fun H e s' => hCX w H s₁ e s'
/-- the same where the promise hangs on the written part alone: (sp := My.sp_law), no hole under a binder -/
theorem walk_ofK {l : PySem.W.OpenLaw} {n k : Nat} {q : Program} {loose : List Str} {XP : (Str → Option Value) → Heap → Prop} {YP : World → Heap → Prop} {d : DefRec} {K : Params → PySem.W.Frag} {CX : CXT} {sp : PySem.W.Frag → Sp} {x : Str}
    (hn : l.most = some n) (hn2 : n ≤ sizeLine) (hdf : d.params.defaults = []) (hr : Room k callerA)
    (hY : ∀ (w : World) (h : Heap), YP w h → (K w.params).In h)
    (F : ∀ (w : World) (mg : Str → Option Value) (fa : Addr) (h : Heap), (K w.params).In h → h.Ns mainGlobals mg → mg d.name = some (.ref fa) →
      ∃ fd : FuncData, (∀ (s : Shared) (u : Value), BindsTo s fd ⟨[u], []⟩ [(x, u)]) ∧
        ∀ base : Heap, (K w.params).In base → base.Ns mainGlobals mg → FnOk l.prog w (K w.params) mg base CX k fa fd [x] (sp (K w.params)))
    (hsp : ∀ (K : PySem.W.Frag) (H : Hp) (a : Addr) (ns : List Int), ns.length ≤ n → Only H → SqL K H a (ns.map V.int) → sp K [.ref a] H (fun v _ => v = .bl true) fun _ _ _ => False)
    (hCX : ∀ (H : Hp) (s : Shared) (e : Value) (s' : Shared), CX [] H s (fun _ _ _ => False) e s' → False) :
    PySem.W.WalkO q loose XP YP l.row.toRowW d [] (fun f vs => PySem.call f vs) :=
  walk_of (K := K) (CX := fun _ => CX) (sp := fun w => sp (K w.params)) hn hn2 hdf hr hY F (fun w H a ns h1 h2 h3 => hsp (K w.params) H a ns h1 h2 h3) fun _ H s e s' => hCX H s e s'
end L2

/- THE LAST THEOREM (shape; LID, My.* are yours):
   My.Adr: a structure of the addresses that your layer names (classes, functions); My.Txt K t: a structure (Prop) of the equations over K;
   My.txt_mk : {K} {implicit addresses ..} (e1 : nsIn K mainGlobals "law" = some (some (.ref f))) (e2 : K.lookup f = some ⟨oc, od, .func (fnOf "law" "law" params body scope dV kV doc pm an cdv ct), sl⟩) (e3 : codeIn K cdv "law" = true) .. : ∃ t, My.Txt K t

set_option maxRecDepth 100000 in
set_option maxHeartbeats 0 in
theorem PySem.Challenge.cw_LID_holds : PySem.Challenge.rw_LID.Holds := by
  w_on; o_law; k_head; (case hw => w_witness2)
  k_fill
  refine L2.walk_of (l := PySem.Challenge.rw_LID) (n := 63) (k := 40) (x := "script") (CX := fun w => ..) (sp := fun _ => My.sp_law) rfl (by decide) rfl ⟨rfl, by decide, by decide⟩ (fun w h Y => PySem.W.kIn_of Y) ?F ?S ?C
  case F =>
    intro w mg fa h KX G hmg
    have T : ∃ t, My.Txt (L2.KOf KX) t := by
      dsimp only [L2.KOf]                          -- K must stand as «<heap const> w.params» for k_is
      refine' My.txt_mk ?e1 ?e2 ?e3 ..
      (case e1 => PySem.W.k_is)                    -- in the order: a name -> its address -> its object -> its parts
      (case e2 => PySem.W.k_is)
      ..
    obtain ⟨t, T⟩ := T
    have e0 := hmg.symm.trans (PySem.W.mg_of KX G T.law)
    cases e0                                       -- fa is the law's own address
    exact ⟨_, fun s u => .of_eq rfl, fun base kb nb => My.law_fn T kb nb⟩     -- if «.of_eq rfl» comes too early: refine' ⟨_, ?b, fun base kb nb => My.law_fn T kb nb⟩; exact fun s u => .of_eq rfl
  case S => exact fun w H a ns hl hO hS => ..
  case C => exact ..
(the tactic k_is has no namespace: write k_is) -/

/-! SHORT WORDS over the layer: a def of the text, its body, what a loop and a test want. -/
namespace L2
open PySem PySem.Spec PyProof.Rows

/-! ### the text by places -/
/-- the j-th statement of a class's body -/
def inClass (s : Stmt) (j : Nat) : Stmt := match s with
  | .ClassDef _ _ _ body _ _ _ _ _ _ _ => body.getD j (.Pass ⟨0, 0, 0, 0⟩)
  | _ => .Pass ⟨0, 0, 0, 0⟩
def defArgs (s : Stmt) : Arguments := match s with
  | .FunctionDef _ a _ _ _ _ _ _ _ _ => a
  | _ => { posonlyargs := [], args := [], vararg := none, kwonlyargs := [], kw_defaults := [], kwarg := none, defaults := [] }
def defBody (s : Stmt) : List Stmt := match s with
  | .FunctionDef _ _ b _ _ _ _ _ _ _ => b
  | _ => []
def defScope (s : Stmt) : Scope := match s with
  | .FunctionDef _ _ _ _ _ _ sc _ _ _ => sc
  | _ => { kind := .function, names := [], isGenerator := false, isCoroutine := false }

/-! ### no exception leaves a def -/
abbrev CX0 : CXT := fun _ _ _ _ _ _ => False
abbrev E0 : XK := fun _ _ _ => False
theorem pass0 {X : Cx} : Passes CX0 X E0 := fun _ _ _ _ _ _ _ h => h.elim

/-! ### a def (or method) of the text as it stands behind the top -/
structure Fun (K : PySem.W.Frag) (x qual : Str) (st : Stmt) (f : Addr) (fd : FuncData) : Prop where
  ex : ∃ (oc : Value) (od : Option Addr) (kV doc pm : Value) (an : Option Addr) (cdv ct : Value) (osl : Array (Option Value)),
    fd = PySem.W.fnOf x qual (defArgs st) (defBody st) (defScope st) .none kV doc pm an cdv ct ∧ K.lookup f = some ⟨oc, od, .func fd, osl⟩ ∧ PySem.W.codeIn K cdv qual = true
  kp : PySem.W.keepIn K (.ref f) = true
section
variable {P : Program} {w : World} {K : PySem.W.Frag} {mg : Str → Option Value} {base : Heap}
/-- THE RULE for a def: its body as a term of rules, and the reading of that term -/
theorem Fun.ok {x qual : Str} {st : Stmt} {f : Addr} {fd : FuncData} {N ps : List Str} {k : Nat} {sp : Sp} (F : Fun K x qual st f fd) (S : FnScope N ps (defScope st)) (len : ∀ vs H Q E, sp vs H Q E → vs.length = ps.length)
    (hbody : ∀ (cdv : Value) (A : Around) (outer : List Env) (s : Shared) (H : Hp) (vs : List V) (Q : VK) (E : XK), Room k (A.deeper (envOfC qual (defScope st) s.heap.objs.size f cdv)) → sp vs H Q E →
      ∃ t, PSs (cxOf CX0 P w K mg base N qual (defScope st) f cdv A outer s H E).nox (defBody st) t ∧ t { nx := fun _ H' => Q .non H', rt := Q } (start N vs) H) : FnOk P w K mg base CX0 (k + 1) f fd ps sp := by
  obtain ⟨oc, od, kV, doc, pm, an, cdv, ct, osl, rfl, lk, hcd⟩ := F.ex
  refine fn_of lk hcd S len fun A outer s H vs Q E hr hsp => ?_
  obtain ⟨t, h, q⟩ := hbody cdv A outer s H vs Q E hr hsp
  exact ⟨t, h.nox, q⟩
/-- how its arguments bind (no defaults): h is «fun _ _ _ _ _ _ us hl => match us, hl with | [_, _], _ => rfl», one _ a parameter -/
theorem Fun.binds {x qual : Str} {st : Stmt} {f : Addr} {fd : FuncData} {ps : List Str} (F : Fun K x qual st f fd)
    (h : ∀ (kV doc pm : Value) (an : Option Addr) (cdv ct : Value) (us : List Value), us.length = ps.length → bindArgs (PySem.W.fnOf x qual (defArgs st) (defBody st) (defScope st) .none kV doc pm an cdv ct) ⟨us, []⟩ = pure (ps.zip us)) : Binds K fd ps [] := by
  obtain ⟨oc, od, kV, doc, pm, an, cdv, ct, osl, rfl, lk, hcd⟩ := F.ex
  exact .all (h kV doc pm an cdv ct)
theorem fun_mk {x qual : Str} {st : Stmt} {f : Addr} {oc : Value} {od an : Option Addr} {osl : Array (Option Value)} {kV doc pm cdv ct : Value} (l : K.lookup f = some ⟨oc, od, .func (PySem.W.fnOf x qual (defArgs st) (defBody st) (defScope st) .none kV doc pm an cdv ct), osl⟩)
    (c : PySem.W.codeIn K cdv qual = true) (k : PySem.W.keepIn K (.ref f) = true) : Fun K x qual st f (PySem.W.fnOf x qual (defArgs st) (defBody st) (defScope st) .none kV doc pm an cdv ct) := ⟨⟨oc, od, kV, doc, pm, an, cdv, ct, osl, rfl, l, c⟩, k⟩
end
theorem hu_of {A : Around} {k : Nat} (hr : Room k A) : A.units + 1 < cLine := Nat.lt_of_le_of_lt (Nat.add_le_add_left (by decide : 1 ≤ 64) _) hr.units
theorem small1000 {n : Nat} (h : n ≤ 1000) : n < sizeLine := Nat.lt_of_le_of_lt h (by decide)

/-! ### expressions in short: the name that stands in the i-th slot -/
section
variable {X : Cx}
theorem pv (i : Nat) {x : Str} {pos : Pos} (hN : X.N[i]? = some x := by rfl) (hv : Vis X.env.scope x := by first | exact Or.inl rfl | exact Or.inr (Or.inl rfl) | exact Or.inr (Or.inr rfl)) (hd : (x == ("__debug__" : Str)) = false := by decide)
    (hcd : (x == ("__classdict__" : Str)) = false := by decide) : PE X (.Name x pos) (tVar i) := pe_var hN hv hd hcd
end

/-! ### tests -/
theorem iteF {A B : Prop} (h : B) : if false = true then A else B := by
  rw [if_neg Bool.false_ne_true]
  exact h
theorem iteT {A B : Prop} (h : A) : if true = true then A else B := by
  rw [if_pos rfl]
  exact h
theorem ite2 {c A B : Prop} [Decidable c] (h1 : c → A) (h2 : ¬ c → B) : if c then A else B := by
  by_cases h : c
  · rw [if_pos h]
    exact h1 h
  · rw [if_neg h]
    exact h2 h
theorem iteNS {c A B : Prop} [Decidable c] (hc : c) (h : B) : if (!decide c) = true then A else B := by
  rw [decide_eq_true hc]
  exact iteF h

/-! ### heaps -/
/-- all that was tracked is as it was -/
def Same (H H' : Hp) : Prop := ∀ b o, H b = some o → H' b = some o
theorem Same.refl (H : Hp) : Same H H := fun _ _ h => h
theorem Same.trans {H H1 H2 : Hp} (a : Same H H1) (b : Same H1 H2) : Same H H2 := fun c o h => b c o (a c o h)
theorem Same.free {H H' : Hp} (e : Same H H') {l : Addr} (h : H' l = Option.none) : H l = Option.none := by
  cases q : H l with
  | none => rfl
  | some o =>
    rw [e l o q] at h
    cases h
theorem Same.seq {K : PySem.W.Frag} {H H' : Hp} {a : Addr} {xs : List V} (e : Same H H') (h : SqL K H a xs) : SqL K H' a xs := by
  rcases h with (h | ⟨o, h⟩) | h
  · exact .inl (.inl (e _ _ h))
  · exact .inl (.inr ⟨o, e _ _ h⟩)
  · exact .inr h

end L2

set_option maxHeartbeats 4000000
namespace L2
open PySem PySem.Spec PyProof.Rows

/-! ### a comprehension's block -/
/-- what a block's free names hold at its start -/
def cSt (src : List (Option Nat)) (σ : St) : St := src.map fun o => match o with | some j => σ.getD j none | none => none
theorem cSt_get {src : List (Option Nat)} {σ : St} {i : Nat} {v : V} (h : (cSt src σ)[i]? = some (some v)) : ∃ j, src[i]? = some (some j) ∧ σ[j]? = some (some v) := by
  unfold cSt at h
  rw [List.getElem?_map] at h
  cases e : src[i]? with
  | none => rw [e] at h; cases h
  | some o =>
    rw [e] at h
    cases o with
    | none => cases h
    | some j =>
      refine ⟨j, rfl, ?_⟩
      have h' : σ.getD j none = some v := Option.some.inj h
      rw [List.getD_eq_getElem?_getD] at h'
      cases e2 : σ[j]? with
      | none => rw [e2] at h'; cases h'
      | some o => rw [e2] at h'; rw [show o = some v from h']
/-- the block's names against the scope and the names around -/
structure BlkScope (NB : List Str) (src : List (Option Nat)) (scope : Scope) (X : Cx) : Prop where
  kind : scope.kind = .function
  nd : NB.Nodup
  len : src.length = NB.length
  nocell : ∀ y ∈ scope.names, y.2 ≠ .cell
  names : ∀ y ∈ scope.names, y.2 = .local → scope.names.lookup y.1 = some .local
  free : ∀ y ∈ scope.names, y.2 = .free → X.env.scope.names.lookup y.1 = some .cell ∨ X.env.scope.names.lookup y.1 = some .free
  src : ∀ (i : Nat) (x : Str) (j : Nat), NB[i]? = some x → src[i]? = some (some j) → X.N[j]? = some x ∧ scope.names.lookup x = some .free

def blk (X : Cx) (NB : List Str) (scope : Scope) (cl : List (Str × Addr)) (C : Addr) (s₃ : Shared) (H₃ : Hp) (fp : List Addr) : Cx :=
  { X with N := NB, s₀ := s₃, H₀ := H₃, env := compEnvC scope cl C X.env, outer := X.stack, stack := X.stack, ex := fp, fn := fun _ => false, pn := [], xe := fun _ _ => False }

theorem closure_go {env : Env} : ∀ (names : List (Str × NameKind)) (acc : List (Str × Addr)), (∀ y ∈ names, y.2 = NameKind.free → ∃ c, env.cells.lookup y.1 = some c) → (∀ x c, acc.lookup x = some c → env.cells.lookup x = some c) →
    ∃ cl, (forIn names acc fun x r => (if (x.2 == NameKind.free) = true then (do let a ← cellOf env x.1; pure (ForInStep.yield ((x.1, a) :: r))) else pure (ForInStep.yield r) : Sem (ForInStep (List (Str × Addr))))) = (pure cl : Sem (List (Str × Addr))) ∧
      (∀ x c, cl.lookup x = some c → env.cells.lookup x = some c) ∧ (∀ x c, acc.lookup x = some c → ∃ c', cl.lookup x = some c') ∧ ∀ x, (x, NameKind.free) ∈ names → ∃ c, cl.lookup x = some c
  | [], acc, _, ha => ⟨acc, by rw [List.forIn_nil], ha, fun x c h => ⟨c, h⟩, fun x h => nomatch h⟩
  | (n, k) :: r, acc, hf, ha => by
    by_cases hk : k = NameKind.free
    · subst hk
      obtain ⟨c, hc⟩ := hf (n, NameKind.free) List.mem_cons_self rfl
      have ha' : ∀ x c', ((n, c) :: acc).lookup x = some c' → env.cells.lookup x = some c' := fun x c' h => by
        rw [List.lookup_cons] at h
        cases hx : x == n with
        | true =>
          rw [hx] at h
          cases h
          have : x = n := by simpa using hx
          rw [this]; exact hc
        | false => rw [hx] at h; exact ha x c' h
      obtain ⟨cl, e1, e2, e3, e4⟩ := closure_go r ((n, c) :: acc) (fun y hy => hf y (List.mem_cons_of_mem _ hy)) ha'
      refine ⟨cl, ?_, e2, fun x c' h => ?_, fun x h => ?_⟩
      · rw [List.forIn_cons]
        have ec : cellOf env n = pure c := by unfold cellOf; rw [hc]
        have e0 : (if ((n, NameKind.free).2 == NameKind.free) = true then (do let a ← cellOf env (n, NameKind.free).1; pure (ForInStep.yield (((n, NameKind.free).1, a) :: acc))) else pure (ForInStep.yield acc) : Sem (ForInStep (List (Str × Addr)))) = pure (ForInStep.yield ((n, c) :: acc)) := by
          rw [if_pos (show (NameKind.free == NameKind.free) = true by decide)]
          show cellOf env n >>= _ = _
          rw [ec]; rfl
        rw [e0]
        exact e1
      · cases hx : x == n with
        | true => exact e3 x c (by rw [List.lookup_cons, hx])
        | false => exact e3 x c' (by rw [List.lookup_cons, hx]; exact h)
      · rcases List.mem_cons.mp h with h | h
        · cases h
          exact e3 n c (by rw [List.lookup_cons]; simp)
        · exact e4 x h
    · obtain ⟨cl, e1, e2, e3, e4⟩ := closure_go r acc (fun y hy => hf y (List.mem_cons_of_mem _ hy)) ha
      refine ⟨cl, ?_, e2, e3, fun x h => ?_⟩
      · rw [List.forIn_cons]
        have hb : (k == NameKind.free) = false := by simpa using hk
        have e0 : (if ((n, k).2 == NameKind.free) = true then (do let a ← cellOf env (n, k).1; pure (ForInStep.yield (((n, k).1, a) :: acc))) else pure (ForInStep.yield acc) : Sem (ForInStep (List (Str × Addr)))) = pure (ForInStep.yield acc) := by
          rw [if_neg (by show ¬ (k == NameKind.free) = true; rw [hb]; decide)]
        rw [e0]
        exact e1
      · rcases List.mem_cons.mp h with h | h
        · cases h; exact absurd rfl hk
        · exact e4 x h
theorem closure_ex {X : Cx} (ok : X.Ok) {NB : List Str} {src : List (Option Nat)} {scope : Scope} (S : BlkScope NB src scope X) :
    ∃ cl, closureFor scope X.env = pure cl ∧ (∀ x c, cl.lookup x = some c → X.env.cells.lookup x = some c) ∧ ∀ x, (x, NameKind.free) ∈ scope.names → ∃ c, cl.lookup x = some c := by
  obtain ⟨cl, e1, e2, _, e4⟩ := closure_go (env := X.env) scope.names [] (fun y hy hk => ok.has y.1 (S.free y hy hk)) (fun x c h => nomatch h)
  refine ⟨cl, ?_, e2, e4⟩
  unfold closureFor
  simp only [bind_pure]
  exact e1

theorem relabel_free {scope : Scope} {env : Env} {x : Str} (h : scope.names.lookup x = some .free) : (relabel scope env).names.lookup x = some .cell ∨ (relabel scope env).names.lookup x = some .free := by
  have go : ∀ names : List (Str × NameKind), names.lookup x = some .free →
      (names.map fun (n, k) => if (k == NameKind.free && env.scope.kind == .function && env.kindOf n == some .cell) then (n, NameKind.cell) else (n, k)).lookup x = some .cell ∨
      (names.map fun (n, k) => if (k == NameKind.free && env.scope.kind == .function && env.kindOf n == some .cell) then (n, NameKind.cell) else (n, k)).lookup x = some .free := by
    intro names
    induction names with
    | nil => intro h; simp at h
    | cons y r ih =>
      intro h
      obtain ⟨n, k⟩ := y
      rw [List.lookup_cons] at h
      rw [List.map_cons]
      cases hx : x == n with
      | true =>
        rw [hx] at h
        cases h
        by_cases hc : (NameKind.free == NameKind.free && env.scope.kind == .function && env.kindOf n == some .cell) = true
        · left; show List.lookup x ((if _ then _ else _) :: _) = _; rw [if_pos hc, List.lookup_cons, hx]
        · right; show List.lookup x ((if _ then _ else _) :: _) = _; rw [if_neg hc, List.lookup_cons, hx]
      | false =>
        rw [hx] at h
        by_cases hc : (k == NameKind.free && env.scope.kind == .function && env.kindOf n == some .cell) = true
        · show List.lookup x ((if _ then _ else _) :: _) = _ ∨ List.lookup x ((if _ then _ else _) :: _) = _
          rw [if_pos hc, List.lookup_cons, hx]; exact ih h
        · show List.lookup x ((if _ then _ else _) :: _) = _ ∨ List.lookup x ((if _ then _ else _) :: _) = _
          rw [if_neg hc, List.lookup_cons, hx]; exact ih h
  exact go scope.names h
/-- where the relabelled scope says cell or free, the scope says free -/
theorem relabel_back {scope : Scope} {env : Env} {x : Str} {k : NameKind} (hc : ∀ y ∈ scope.names, y.2 ≠ .cell) (h : (relabel scope env).names.lookup x = some k) (hk : k = .cell ∨ k = .free) : (x, NameKind.free) ∈ scope.names := by
  have m := PySem.mem_of_lookup h
  obtain ⟨⟨n, k'⟩, hm, e⟩ := List.mem_map.mp m
  by_cases q : (k' == NameKind.free && env.scope.kind == .function && env.kindOf n == some .cell) = true
  · have e' : (n, NameKind.cell) = (x, k) := by simpa [q] using e
    have k1 : k' = NameKind.free := by
      simp only [Bool.and_eq_true, beq_iff_eq] at q
      exact q.1.1
    cases e'
    rw [← k1]; exact hm
  · have e' : (n, k') = (x, k) := by simpa [q] using e
    cases e'
    rcases hk with z | z
    · subst z; exact absurd rfl (hc _ hm)
    · subst z; exact hm

section
variable {X : Cx} {pins : List (Addr × Obj)} {σ : St} {H : Hp} {s : Shared} {NB : List Str} {src : List (Option Nat)} {scope : Scope} {cl : List (Str × Addr)} {fp : List Addr} {h₁ : Heap} {t₁ : Nat}
theorem inv_blk (I : Inv X pins σ H s) (S : BlkScope NB src scope X) (c1 : ∀ x c, cl.lookup x = some c → X.env.cells.lookup x = some c) (c2 : ∀ x, (x, NameKind.free) ∈ scope.names → ∃ c, cl.lookup x = some c)
    (hf : ∀ b ∈ fp, FpOk X pins H b) (hfo : ∀ b ∈ fp, b < s.heap.objs.size) {m : Str → Option Value} (hn : h₁.Ns s.heap.objs.size m) (hk : ∀ b o, s.heap.get? b = some o → h₁.get? b = some o) :
    Inv (blk X NB scope cl s.heap.objs.size s H fp) [] (cSt src σ) H { s with heap := h₁, toks := t₁ } := by
  have stk : ∀ b ∈ frs X.stack, b ∈ X.env.locals :: X.fs := I.stkSub
  have cellOk : ∀ x c, cl.lookup x = some c → ∃ v, s.heap.IsCell c v := fun x c e => I.cell x c (c1 x c e)
  refine ⟨⟨I.ok.mod, S.kind, I.ok.glob, I.ok.blt, Nat.le_refl _, fun x y c e1 e2 => I.ok.inj x y c (c1 x c e1) (c1 y c e2), fun x hx => ?_, fun x c z => absurd z (by show ¬ (false = true); decide), I.ok.hd, I.ok.frames, .inl rfl, fun b hb => ⟨?_, fun x c e => ?_⟩, I.bs, Nat.le_trans I.ok.bsz I.sz, fun b o e hb => ?_, fun b hb => ?_, I.stack, I.stkFree⟩,
    rfl, I.bare, Un.kept hk, ⟨m, hn, fun i x v e1 e2 e3 => ?_⟩, fun x c e => ?_, I.hok.fresh (Nat.le_refl _), fun x c e => I.freeC x c (c1 x c e), fun p hp => absurd (show p ∈ ([] : List (Addr × Obj)) from hp) (by simp), I.hok.kept hk, ?_⟩
  · rcases hx with hx | hx
    · exact c2 x (relabel_back S.nocell hx (.inl rfl))
    · exact c2 x (relabel_back S.nocell hx (.inr rfl))
  · exact Nat.ne_of_lt (hfo b hb)
  · exact (hf b hb).2.2.2.2.1 x c (c1 x c e)
  · rcases (hf b hb).2.2.2.1 with z | z
    · exact I.ok.noex b o e z
    · exact absurd (Nat.lt_of_lt_of_le (Heap.lt_size e) (Nat.le_trans I.ok.bsz z)) (Nat.lt_irrefl _)
  · intro z
    rcases List.mem_cons.mp (stk b z) with e | e
    · exact (hf b hb).2.1 e
    · exact (hf b hb).2.2.1 e
  · obtain ⟨j, hj, hv⟩ := cSt_get e2
    obtain ⟨hN, hF⟩ := S.src i x j e1 hj
    obtain ⟨m0, hn0, hl0⟩ := I.loc
    have hmem := PySem.mem_of_lookup hF
    have kx := S.free _ hmem rfl
    have vis : Vis X.env.scope x := by
      rcases kx with z | z
      · exact .inr (.inl z)
      · exact .inr (.inr z)
    obtain ⟨u, r, l⟩ := hl0 j x v hN hv vis
    refine ⟨u, r, .inr ⟨relabel_free hF, ?_⟩⟩
    obtain ⟨c, hc⟩ := c2 x hmem
    refine ⟨c, hc, ?_⟩
    rcases l with ⟨hk', _⟩ | ⟨_, c', e, z⟩
    · have hk'' : X.env.scope.names.lookup x = some .local := hk'
      rcases kx with z | z <;> (rw [z] at hk''; cases hk'')
    · rw [c1 x c hc] at e
      cases e
      obtain ⟨o, ho, hd⟩ := z
      exact ⟨o, hk _ _ ho, hd⟩
  · obtain ⟨v, o, ho, hd⟩ := cellOk x c e
    exact ⟨v, o, hk _ _ ho, hd⟩
  · show (cSt src σ).length = NB.length
    unfold cSt
    rw [List.length_map]
    exact S.len
/-- behind the block -/
theorem Inv.unblk {C : Addr} {σB : St} {H' : Hp} {s' : Shared} (I : Inv X pins σ H s) (J : Inv (blk X NB scope cl C s H fp) [] σB H' s') (hf : ∀ b ∈ fp, FpOk X pins H b) : Inv X pins σ H' s' := by
  refine I.call' (ch := fp) J.os J.base J.hok J.bare fun b hb => ?_
  obtain ⟨_, f1, _, f3, f4, f5⟩ := hf b hb
  exact ⟨f3, f1, f4, f5⟩
end

/-! ### the tests of a clause -/
def PTs (X : Cx) (ifs : List Expr) (t : TT) : Prop :=
  ∀ (pins : List (Addr × Obj)) (s : Shared) (σ : St) (H : Hp) (Q : Bool → Hp → Prop), Inv X pins σ H s → t σ H Q →
    wpAny (model X.prog X.w) X.A (forIn ifs true fun c r => if r = true then do let ok ← isTrue c X.env (eval c X.env); pure (ForInStep.yield ok) else pure (ForInStep.yield r)) (TP X pins σ Q) X.xe s
def tYes : TT := fun _ H Q => Q true H
theorem pts_nil {X : Cx} : PTs X [] tYes := fun _ _ _ H _ I h => wpAny_tests_nil ⟨H, I, h⟩
theorem pts_one {X : Cx} {c : Expr} {t : TT} (h : PT X c t) : PTs X [c] t := fun pins s σ H Q I q => wpAny_tests_one (h pins s σ H Q I q)

/-- the walk of a clause: W by turn and measure, D the list that grows -/
def CompW (J : It) (g : TG) (tt : TT) (te : TE) (D : Addr) (fin : Hp → Prop) (σB : St) (H1 : Hp) : Prop :=
  ∃ W : Nat → Nat → St → Hp → Prop, (∃ m, W 0 m σB H1) ∧ ∀ i m σ H, W i m σ H → (J.stop i H ∧ fin H) ∨ (J.go i H ∧ ∀ x H', J.yld i H x H' → g x σ H' fun σ2 H2 => tt σ2 H2 fun b H3 =>
    if b = true then te σ2 H3 fun v H4 => ∃ ys, H4 D = some (.lst ys) ∧ ys.length < sizeLine ∧ ∃ m', m' < m ∧ W (i + 1) m' σ2 (upd H4 D (.lst (ys ++ [v]))) else ∃ m', m' < m ∧ W (i + 1) m' σ2 H3)

theorem comp_loop {B : Cx} {elt tg iter : Expr} {ifs : List Expr} {scope : Scope} {pos : Pos} {J : It} {g : TG} {tt : TT} {te : TE} {D it : Addr} {fp : List Addr} {tn : Nat → Heap → Prop} {fin : Hp → Prop} {R : Result → Shared → Prop} {s : Shared} {σB : St} {H1 : Hp}
    (hx : B.xe = fun _ _ => False) (hc : B.calm = true) (T : Turn B.prog B.w B.K tg J fp it tn) (hg : PG B tg g) (ht : PTs B ifs tt) (he : PE B elt te) (I : Inv B [] σB H1 s) (st : tn 0 s.heap) (hf : ∀ b ∈ fp, FpOk B [] H1 b)
    (hw : CompW J g tt te D fin σB H1) (hR : ∀ σ' H' s', Inv B [] σ' H' s' → fin H' → R (.ok .next) s') :
    codeAny (model B.prog B.w) B.A (.compLoop (.ListComp elt [⟨tg, iter, ifs, 0⟩] scope pos) 0 (.ref it) (.ref D) B.env) R s := by
  obtain ⟨W, ⟨m0, w0⟩, turn⟩ := hw
  have stat : ∀ {H' : Hp}, (∀ b ∈ fp, H' b = none) → ∀ b ∈ fp, FpOk B [] H' b := fun hn b hb => ⟨hn b hb, (hf b hb).2⟩
  refine codeAny_loop rfl (fun n s' => ∃ i σ' H', Inv B [] σ' H' s' ∧ tn i s'.heap ∧ (∀ b ∈ fp, H' b = none) ∧ W i n σ' H') ?_ m0 ⟨0, σB, H1, I, st, fun b hb => (hf b hb).1, w0⟩
  rintro n s3 ⟨i, σ3, H3, I3, st3, fr3, w3⟩
  show wpAny _ B.A ((compTurn (.ListComp elt [⟨tg, iter, ifs, 0⟩] scope pos) 0 (.ref it) (.ref D) B.env).onRaise (fun x => do noteFrame x B.env; theTreesLotGoes x)) _ _ s3
  refine wpAny_noted ?_
  rw [compTurn_list]
  have nx : ∀ {α : Type} {t : Sem α} {Q : α → Shared → Prop} {E' : Value → Shared → Prop} {s : Shared}, wpAny (model B.prog B.w) B.A t Q B.xe s → wpAny (model B.prog B.w) B.A t Q E' s := fun h =>
    wpAny_mono h (fun _ _ q => q) fun _ _ z => by rw [hx] at z; exact z.elim
  rcases turn i n σ3 H3 w3 with ⟨stop, qn⟩ | ⟨go, step⟩
  · refine wpAny_bind (wpAny_standAt (wpAny_bind (thn (T.done B rfl rfl rfl hc i [] s3 σ3 H3 _ I3 (stat fr3) st3 stop) fun r s4 ⟨hr, I4⟩ => ?_)))
    subst hr
    exact wpAny_pure (hR σ3 H3 s4 I4 qn)
  · refine wpAny_bind (wpAny_standAt (wpAny_bind (thn (T.item B rfl rfl rfl hc i [] s3 σ3 H3 _ I3 (stat fr3) st3 go) fun r s4 ⟨u, hr, h4⟩ => ?_)))
    subst hr
    refine wpAny_bind (thn h4 fun _ s5 ⟨x, H5, I5, r5, y5, st5, fr5⟩ => ?_)
    have I5' := I5.pinned (stat fr5) (T.obj _ _ st5)
    refine wpAny_bind (nx (thn (hg _ s5 σ3 H5 x u _ I5' r5 (step x H5 y5)) fun _ s6 ⟨σ6, H6, I6, q6⟩ => ?_))
    have back : ∀ {σ7 : St} {H7 : Hp} {s7 : Shared} {m' : Nat}, Inv B ([] ++ pinsAt fp s5.heap) σ7 H7 s7 → m' < n → W (i + 1) m' σ7 H7 → ∃ m, m < n ∧ ∃ i σ' H', Inv B [] σ' H' s7 ∧ tn i s7.heap ∧ (∀ b ∈ fp, H' b = none) ∧ W i m σ' H' := fun {σ7 H7 s7 m'} I7 hm w7 => by
      refine ⟨m', hm, i + 1, σ7, H7, I7.unpinned, T.keep _ _ _ st5 fun b hb o e => (I7.pin (b, o) (List.mem_append_right _ (List.mem_append_right _ (mem_pinsAt hb e)))).1, fun b hb => ?_, w7⟩
      obtain ⟨o, e, d⟩ := T.obj _ _ st5 b hb
      exact (I7.pin (b, o) (List.mem_append_right _ (List.mem_append_right _ (mem_pinsAt hb e)))).2.1
    refine wpAny_bind (nx (thn (ht _ s6 σ6 H6 _ I6 q6) fun ok s7 ⟨H7, I7, q7⟩ => ?_))
    cases ok with
    | false =>
      rw [if_neg Bool.false_ne_true] at q7
      obtain ⟨m', hm, w7⟩ := q7
      exact wpAny_pure ⟨rfl, back I7 hm w7⟩
    | true =>
      rw [if_pos rfl] at q7
      refine wpAny_bind (wpAny_bind (nx (thn (he _ s7 σ6 H7 _ I7 q7) fun v s8 ⟨y, H8, I8, r8, ys, hD, hl, m', hm, w8⟩ => ?_)))
      refine wpAny_bind (nx (thn (mt_append _ s8 σ6 H8 (.ref D) [y] (.ref D) [v] (fun _ H9 => H9 = upd H8 D (.lst (ys ++ [y]))) I8 rfl (.cons r8 .nil) ⟨D, ys, y, rfl, rfl, hD, hl, rfl⟩) fun _ s9 ⟨_, H9, I9, _, e9⟩ => ?_))
      subst e9
      exact wpAny_pure (wpAny_pure ⟨rfl, back I9 hm w8⟩)
end L2

set_option maxHeartbeats 4000000
namespace L2
open PySem PySem.Spec PyProof.Rows
section
variable {X : Cx} {elt tg iter : Expr} {ifs : List Expr} {scope : Scope} {pos : Pos} {wi : TI} {g : TG} {tt : TT} {te : TE} {NB : List Str} {src : List (Option Nat)}
/-- a list comprehension of one clause: src, where the block's names come from -/
def tComp (src : List (Option Nat)) (wi : TI) (g : TG) (tt : TT) (te : TE) : TE := fun σ H Q => wi σ H fun J H1 => ∀ D, H1 D = none → CompW J g tt te D (fun H' => Q (.ref D) H') (cSt src σ) (upd H1 D (.lst []))
/-- the block from the made iterator on -/
theorem comp_block {pins : List (Addr × Obj)} {σ : St} {H2 : Hp} {s2 : Shared} {J : It} {fp : List Addr} {it : Addr} {tn : Nat → Heap → Prop} {cl : List (Str × Addr)} {fin : Addr → Hp → Prop} {E' : Value → Shared → Prop} {RR : Value → Addr → Result → Shared → Prop}
    (S : BlkScope NB src scope X) (hc : X.calm = true) (c1 : ∀ x c, cl.lookup x = some c → X.env.cells.lookup x = some c) (c2 : ∀ x, (x, NameKind.free) ∈ scope.names → ∃ c, cl.lookup x = some c)
    (hg : ∀ cl C s₃ H₃ fp, PG (blk X NB scope cl C s₃ H₃ fp) tg g) (ht : ∀ cl C s₃ H₃ fp, PTs (blk X NB scope cl C s₃ H₃ fp) ifs tt) (he : ∀ cl C s₃ H₃ fp, PE (blk X NB scope cl C s₃ H₃ fp) elt te)
    (I2 : Inv X pins σ H2 s2) (T : Turn X.prog X.w X.K tg J fp it tn) (st2 : tn 0 s2.heap) (f2 : ∀ b ∈ fp, FpOk X pins H2 b)
    (hw : ∀ D, H2 D = none → CompW J g tt te D (fin D) (cSt src σ) (upd H2 D (.lst [])))
    (hR : ∀ D C H' s', FpOk X pins H' C → Inv X pins σ H' s' → (∃ m, s'.heap.Ns C m) → fin D H' → RR (.ref D) C (.ok .next) s') :
    wpAny (model X.prog X.w) X.A (newList []) (fun acc s₃ => wpAny (model X.prog X.w) X.A (newFunctionEnv scope X.env.globals cl [] X.env.qual none .none (some X.env)) (fun cenv s₄ =>
      codeAny (model X.prog X.w) X.A (.compStart (.ListComp elt [⟨tg, iter, ifs, 0⟩] scope pos) 0 (.ref it) acc { cenv with scope := relabel scope X.env }) (RR acc cenv.locals) s₄) E' s₃) E' s2 := by
  refine wpAny_newObj_type (wpAny_newFunctionEnv S.nocell (by intro y hy; simp at hy) (fun h₁ hns₁ hsb₁ => ?_) S.kind)
  have I3 := I2.lnew (ys := []) (its := []) (t' := s2.toks) .nil (Nat.zero_le _)
  have hD : H2 s2.heap.objs.size = none := I2.fresh
  have fo : ∀ b ∈ fp, b < s2.heap.objs.size := fun b hb => by obtain ⟨o, e, _⟩ := T.obj _ _ st2 b hb; exact Heap.lt_size e
  have up : ∀ {b : Addr}, b ∈ fp → upd H2 s2.heap.objs.size (.lst []) b = H2 b := fun {b} hb => upd_ne (Nat.ne_of_lt (fo b hb))
  have f3 : ∀ b ∈ fp, FpOk X pins (upd H2 s2.heap.objs.size (.lst [])) b := fun b hb => ⟨by rw [up hb]; exact (f2 b hb).1, (f2 b hb).2⟩
  have hsz : (s2.heap.push { cls := .type "list", data := .seq ([] : List Value).toArray }).objs.size = s2.heap.objs.size + 1 := by rw [Heap.size_push]
  generalize hs3 : ({ s2 with heap := s2.heap.push { cls := .type "list", data := .seq ([] : List Value).toArray } } : Shared) = s3 at I3 hns₁ hsb₁ ⊢
  have hh3 : s3.heap = s2.heap.push { cls := .type "list", data := .seq ([] : List Value).toArray } := by rw [← hs3]
  have fo3 : ∀ b ∈ fp, b < s3.heap.objs.size := fun b hb => by rw [hh3, hsz]; exact Nat.lt_succ_of_lt (fo b hb)
  have keep : ∀ b o, s3.heap.get? b = some o → h₁.get? b = some o := fun b o e => hsb₁.extBut b o (Nat.ne_of_lt (Heap.lt_size e)) (Heap.get?_push_of_some _ e)
  have IB : Inv (blk X NB scope cl s3.heap.objs.size s3 (upd H2 s2.heap.objs.size (.lst [])) fp) [] (cSt src σ) (upd H2 s2.heap.objs.size (.lst [])) { s3 with heap := h₁, toks := s3.toks + ([] : List (Str × Value)).length } :=
    inv_blk I3 S c1 c2 f3 fo3 hns₁ keep
  have stB : tn 0 h₁ := T.keep 0 s2.heap h₁ st2 fun b hb o e => keep b o (by rw [hh3]; exact Heap.get?_push_of_some _ e)
  have fB : ∀ b ∈ fp, FpOk (blk X NB scope cl s3.heap.objs.size s3 (upd H2 s2.heap.objs.size (.lst [])) fp) [] (upd H2 s2.heap.objs.size (.lst [])) b := fun b hb => by
    refine ⟨(f3 b hb).1, Nat.ne_of_lt (fo3 b hb), fun z => ?_, .inl hb, fun x c e => (f3 b hb).2.2.2.2.1 x c (c1 x c e), fun p hp => absurd (show p ∈ ([] : List (Addr × Obj)) from hp) (by simp)⟩
    rcases List.mem_cons.mp (I3.stkSub b z) with e | e
    · exact (f3 b hb).2.1 e
    · exact (f3 b hb).2.2.1 e
  have loop : codeAny (model X.prog X.w) X.A (.compLoop (.ListComp elt [⟨tg, iter, ifs, 0⟩] scope pos) 0 (.ref it) (.ref s2.heap.objs.size) (compEnvC scope cl s3.heap.objs.size X.env)) (RR (.ref s2.heap.objs.size) s3.heap.objs.size)
      { s3 with heap := h₁, toks := s3.toks + ([] : List (Str × Value)).length } := by
    refine comp_loop (B := blk X NB scope cl s3.heap.objs.size s3 (upd H2 s2.heap.objs.size (.lst [])) fp) rfl hc T (hg _ _ _ _ _) (ht _ _ _ _ _) (he _ _ _ _ _) IB stB fB (hw _ hD) fun σ' H' s' J' q => ?_
    obtain ⟨m, hm, _⟩ := J'.loc
    exact hR _ _ H' s' (I3.fpOk (Nat.le_refl _) J'.free) (I3.unblk J' f3) ⟨m, hm⟩ q
  exact codeAny_compStart_list loop (T.self _ 0 _ _ _ stB loop)
theorem pe_comp (S : BlkScope NB src scope X) (hc : X.calm = true) (hi : PI X tg iter wi) (hg : ∀ cl C s₃ H₃ fp, PG (blk X NB scope cl C s₃ H₃ fp) tg g) (ht : ∀ cl C s₃ H₃ fp, PTs (blk X NB scope cl C s₃ H₃ fp) ifs tt)
    (he : ∀ cl C s₃ H₃ fp, PE (blk X NB scope cl C s₃ H₃ fp) elt te) (hs : ∀ x, foldedSetIterable iter X.env x = pure x := by intro _; rfl) : PE X (.ListComp elt [⟨tg, iter, ifs, 0⟩] scope pos) (tComp src wi g tt te) := by
  intro pins s σ H Q I h
  obtain ⟨cl, hcl, c1, c2⟩ := closure_ex I.ok S
  rw [eval_ListComp]
  refine wpAny_comprehension_free (use := none) (cl := cl) rfl hs hcl S.kind S.names (thn (hi pins s σ H _ I h) fun v s1 h1 => thn h1 fun itv s2 h2 => ?_)
  obtain ⟨it, fp, tn, J, H2, e, I2, T, st2, f2, hw⟩ := h2
  subst e
  refine comp_block (RR := fun acc C => compPost (model X.prog X.w) X.A X.xe none (EP X pins σ Q) acc C) S hc c1 c2 hg ht he I2 T st2 f2 hw fun D C H' s' fC I' hm q => ?_
  obtain ⟨m, hm⟩ := hm
  refine ⟨m, hm, fun h' sb => ⟨.ref D, H', ?_, rfl, q⟩⟩
  obtain ⟨g0, g1, _, g3, g4, g5⟩ := fC
  exact I'.turned (t' := s'.toks) (fun b o hb e => (sb.2 b hb).trans e) g0 g1 g3 g4 g5
/-- name = [..] of one row, the name a plain local -/
theorem ps_setComp {i : Nat} {y : Str} {py spos : Pos} (S : BlkScope NB src scope X) (hc : X.calm = true) (hi : PI X tg iter wi) (hg : ∀ cl C s₃ H₃ fp, PG (blk X NB scope cl C s₃ H₃ fp) tg g) (ht : ∀ cl C s₃ H₃ fp, PTs (blk X NB scope cl C s₃ H₃ fp) ifs tt)
    (he : ∀ cl C s₃ H₃ fp, PE (blk X NB scope cl C s₃ H₃ fp) elt te) (hN : X.N.Nodup) (hix : X.N[i]? = some y) (hy : X.env.scope.names.lookup y = some .local)
    (hsw : swapsWith (.ListComp elt [⟨tg, iter, ifs, 0⟩] scope pos) (some (.Name y py)) spos.line X.env = pure true) (hs : ∀ x, foldedSetIterable iter X.env x = pure x := by intro _; rfl) :
    PS X (.Assign [.Name y py] (.ListComp elt [⟨tg, iter, ifs, 0⟩] scope pos) spos) (tAsg (tComp src wi g tt te) (gName i)) := by
  intro pins s σ H D0 I h
  obtain ⟨cl, hcl, c1, c2⟩ := closure_ex I.ok S
  rw [exec_Assign_Name_used _ _ _ _ hsw]
  refine wpAny_bind (wpAny_standAt (wpAny_bind ?_))
  show wpAny _ X.A (do let _ ← comprehension (.ListComp elt [⟨tg, iter, ifs, 0⟩] scope pos) scope X.env _ (newList []) false (eval iter X.env) (some (assign (.Name y py) X.env))) _ _ s
  refine wpAny_bind (wpAny_mono (wpAny_comprehension_free (use := some (assign (.Name y py) X.env)) (Q := fun _ s' => SP X pins D0 .next s') (cl := cl) rfl hs hcl S.kind S.names
    (thn (hi pins s σ H _ I h) fun v s1 h1 => thn h1 fun itv s2 h2 => ?_)) (fun _ s' hq => wpAny_pure (wpAny_pure hq)) fun _ _ e => e)
  obtain ⟨it, fp, tn, J, H2, e, I2, T, st2, f2, hw⟩ := h2
  subst e
  refine comp_block (RR := fun acc C => compPost (model X.prog X.w) X.A X.xe (some (assign (.Name y py) X.env)) (fun _ s' => SP X pins D0 .next s') acc C) S hc c1 c2 hg ht he I2 T st2 f2 hw fun D C H' s' fC I' hm q => ?_
  obtain ⟨m, hm⟩ := hm
  obtain ⟨g0, g1, _, g3, g4, g5⟩ := fC
  show wpAny _ X.A (assign (.Name y py) X.env (.ref D)) _ _ _
  refine wpAny_assign_Name (store_ok2 I' hN hix (.inl hy) (v := .ref D) rfl (fun s'' I'' sb => ?_) (.inr hy))
  obtain ⟨a, sb, ha⟩ := sb
  have hne : C ≠ a := by
    rcases ha with z | z
    · rw [z]; exact g1
    · exact fun z' => g4 y a z z'.symm
  refine ⟨m, hm.sameBut sb hne, fun h' sb' => ⟨_, H', I''.turned (t' := s''.toks) (fun b o hb e => (sb'.2 b hb).trans e) g0 g1 g3 g4 g5, q⟩⟩
end
end L2

set_option maxHeartbeats 4000000
namespace L2
open PySem PySem.Spec PyProof.Rows

/-! ### an exception under way: B holds all that stands still -/
structure FlyOk (P : Program) (w : World) (outer : List Env) (H : Hp) (s : Shared) (B : Heap) (p : Addr) (C a0 : Value) (H' : Hp) (s' : Shared) : Prop where
  os : s'.os = s.os
  bare : AllBare s'.gens
  hok : HOk P w H' B
  keep : ∀ b o, s.heap.get? b = some o → H b = none → b ∉ frs outer → B.get? b = some o ∧ H' b = none
  frame : ∀ b o, s.heap.get? b = some o → H b = none → b ∈ frs outer → (∃ sl, s'.heap.get? b = some { o with slots := sl }) ∧ H' b = none
  there : ∀ b o, s.heap.get? b = some o → H b ≠ none → ∃ o', B.get? b = some o'
  tups : ∀ b xs, H b = some (.tup xs) → H' b = some (.tup xs)
  frzs : ∀ b o u, H b = some (.frz o u) → H' b = some (.frz o u)
  tbls : ∀ b ps, H b = some (.tbl ps) → ∃ more, H' b = some (.tbl (ps ++ more))
  fl : Heap.FlyingW B outer p C a0 s'.heap
theorem FlyOk.un {P : Program} {w : World} {outer : List Env} {H : Hp} {s : Shared} {B : Heap} {p : Addr} {C a0 : Value} {H' : Hp} {s' : Shared} (F : FlyOk P w outer H s B p C a0 H' s') : Un (frs outer) [] H H' s.heap s'.heap where
  keep := fun b o e n hb _ => F.fl.1 b o (F.keep b o e n hb).1
  slot := fun b o e n hb _ => (F.frame b o e n hb).1
  free := fun b o e n _ => by
    by_cases hb : b ∈ frs outer
    · exact (F.frame b o e n hb).2
    · exact (F.keep b o e n hb).2
  there := fun b o e _ => by
    cases n : H b with
    | none =>
      by_cases hb : b ∈ frs outer
      · obtain ⟨⟨sl, q⟩, _⟩ := F.frame b o e n hb
        exact ⟨_, q⟩
      · exact ⟨o, F.fl.1 b o (F.keep b o e n hb).1⟩
    | some u =>
      obtain ⟨o', q⟩ := F.there b o e (by rw [n]; intro z; cases z)
      exact ⟨o', F.fl.1 _ _ q⟩
  tups := F.tups
  frzs := F.frzs
  tbls := F.tbls
theorem FlyOk.hok' {P : Program} {w : World} {outer : List Env} {H : Hp} {s : Shared} {B : Heap} {p : Addr} {C a0 : Value} {H' : Hp} {s' : Shared} (F : FlyOk P w outer H s B p C a0 H' s') : HOk P w H' s'.heap := F.hok.kept F.fl.1
/-- how an exception lies behind a call -/
def CXf (P : Program) (w : World) : CXT := fun outer H s E e s' => ∃ p C a0 B H', e = .ref p ∧ FlyOk P w outer H s B p C a0 H' s' ∧ E C none H'

section
variable {P : Program} {w : World} {K : PySem.W.Frag} {mg : Str → Option Value} {base : Heap} {N : List Str} {qual : Str} {scope : Scope} {f : Addr} {cd : Value} {A : Around} {outer : List Env} {s : Shared} {H : Hp} {E : XK}
/-- the frames hidden -/
abbrev hid (h : Heap) (l : List Env) : Heap := PySem.W.hideAll h (frs l)
theorem hok_hid {l : List Env} {H1 : Hp} {h : Heap} (ok : HOk P w H1 h) (nf : ∀ b ∈ frs l, H1 b = none) : HOk P w H1 (hid h l) := fun a o e => by
  refine (ok a o e).stay (fun b u hb q => PySem.W.hideAll_get _ q fun z => ?_) (fun _ q => q) fun _ _ q => q
  have n := nf b z
  rcases hb with rfl | hb
  · rw [n] at e; cases e
  · rw [n] at hb; cases hb
/-- raised here: what is wanted of it -/
theorem raise_xe {pins : List (Addr × Obj)} {σ : St} {H1 : Hp} {s1 : Shared} {h' : Heap} {e : Addr} {C : Value} {vs : List Value}
    (I : Inv (cxOf (CXf P w) P w K mg base N qual scope f cd A outer s H E) pins σ H1 s1) (hx : Heap.MadeExcOf s1.heap h' e C vs) (q : E C none H1) :
    (cxOf (CXf P w) P w K mg base N qual scope f cd A outer s H E).xe (.ref e) { s1 with heap := h' } := by
  have stk : frs (envOfC qual scope s.heap.objs.size f cd :: outer) = s.heap.objs.size :: frs outer := rfl
  have hfun := I.stack
  refine wpAny_leaves_madeW (base := hid s1.heap (envOfC qual scope s.heap.objs.size f cd :: outer)) (h := s1.heap) (L := s.heap.objs.size) I.ok.frames rfl (fun b o z => PySem.W.of_hideAll _ z)
    (PySem.W.funFrames_hide hfun fun env he b hb => List.mem_filterMap.mpr ⟨env, he, hb⟩) hx fun h2 t x1 x2 x3 x4 => ?_
  have inB : ∀ b o, s1.heap.get? b = some o → b ∉ frs outer → b < s.heap.objs.size → (hid s1.heap (envOfC qual scope s.heap.objs.size f cd :: outer)).get? b = some o := fun b o z hb hlt =>
    PySem.W.hideAll_get _ z fun m => by
      rw [stk] at m
      rcases List.mem_cons.mp m with z' | z'
      · exact absurd hlt (by rw [z']; exact Nat.lt_irrefl _)
      · exact hb z'
  refine ⟨e, C, .ref t, _, H1, rfl, ⟨I.os, I.bare, hok_hid I.hok I.stkFree, fun b o z n hb => ⟨inB b o (I.base.keep b o z n hb (by intro m; exact absurd (show b ∈ ([] : List Addr) from m) (by simp))) hb (Heap.lt_size z), I.base.free b o z n (by intro m; exact absurd (show b ∈ ([] : List Addr) from m) (by simp))⟩,
    fun b o z n hb => ⟨?_, I.base.free b o z n (by intro m; exact absurd (show b ∈ ([] : List Addr) from m) (by simp))⟩, fun b o z n => ?_, I.base.tups, I.base.frzs, I.base.tbls, x1⟩, q⟩
  · obtain ⟨sl, z1⟩ := I.base.slot b o z n hb (by intro m; exact absurd (show b ∈ ([] : List Addr) from m) (by simp))
    obtain ⟨_, o', ho', nd⟩ := I.ok.funs.mem hb
    have e' : o' = o := Option.some.inj (ho'.symm.trans z)
    subst e'
    obtain ⟨sl2, z2⟩ := x4 b _ (hx.keeps _ _ z1) nd
    exact ⟨sl2, z2⟩
  · have nfr : b ∉ frs (envOfC qual scope s.heap.objs.size f cd :: outer) := fun m => by
      rw [stk] at m
      rcases List.mem_cons.mp m with z' | z'
      · exact absurd (Heap.lt_size z) (by rw [z']; exact Nat.lt_irrefl _)
      · exact n (I.ok.frf b z')
    obtain ⟨o', z1⟩ := I.base.there b o z (by intro m; exact absurd (show b ∈ ([] : List Addr) from m) (by simp))
    exact ⟨o', PySem.W.hideAll_get _ z1 nfr⟩
/-- a callee's exception goes on through this frame -/
theorem passX {E' : XK} (hE : ∀ C d H', E' C d H' → E C d H') : Passes (CXf P w) (cxOf (CXf P w) P w K mg base N qual scope f cd A outer s H E) E' := by
  intro pins σ H1 s1 e s' I h
  obtain ⟨p, C, a0, B, H', rfl, F, q⟩ := h
  have stk : frs (envOfC qual scope s.heap.objs.size f cd :: outer) = s.heap.objs.size :: frs outer := rfl
  have noex : ∀ b : Addr, b ∉ (cxOf (CXf P w) P w K mg base N qual scope f cd A outer s H E).ex := fun b m => absurd (show b ∈ ([] : List Addr) from m) (by simp)
  have nst : ∀ b o, s.heap.get? b = some o → b ∉ frs outer → b ∉ frs (cxOf (CXf P w) P w K mg base N qual scope f cd A outer s H E).stack := fun b o z hb m => by
    have m' : b ∈ s.heap.objs.size :: frs outer := m
    rcases List.mem_cons.mp m' with z' | z'
    · exact absurd (Heap.lt_size z) (by rw [z']; exact Nat.lt_irrefl _)
    · exact hb z'
  show wpAny _ _ (leaving (envOfC qual scope s.heap.objs.size f cd) (.ref p)) _ _ s'
  refine wpAny_leaves_onW (outer := outer) (L := s.heap.objs.size) I.ok.frames rfl F.fl fun h2 x1 x2 => ?_
  refine ⟨p, C, a0, B, H', rfl, ⟨F.os.trans I.os, F.bare, F.hok, fun b o z n hb => ?_, fun b o z n hb => ?_, fun b o z n => ?_, fun b xs z => F.tups b xs (I.base.tups b xs z), fun b o u z => F.frzs b o u (I.base.frzs b o u z), fun b ps z => ?_, x1⟩, hE _ _ _ q⟩
  · exact F.keep b o (I.base.keep b o z n hb (noex b)) (I.base.free b o z n (noex b)) (nst b o z hb)
  · obtain ⟨sl, z1⟩ := I.base.slot b o z n hb (noex b)
    have hb' : b ∈ frs (cxOf (CXf P w) P w K mg base N qual scope f cd A outer s H E).stack := List.mem_cons_of_mem _ hb
    obtain ⟨⟨sl2, z2⟩, n2⟩ := F.frame b _ z1 (I.base.free b o z n (noex b)) hb'
    obtain ⟨_, o', ho', nd⟩ := I.ok.funs.mem hb
    have e' : o' = o := Option.some.inj (ho'.symm.trans z)
    subst e'
    obtain ⟨sl3, z3⟩ := x2 b _ z2 nd
    exact ⟨⟨sl3, z3⟩, n2⟩
  · obtain ⟨o', z1⟩ := I.base.there b o z (noex b)
    have hno : b ∉ frs outer := fun m => n (I.ok.frf b m)
    cases n1 : H1 b with
    | none => exact ⟨o', (F.keep b o' z1 n1 (nst b o z hno)).1⟩
    | some u => exact F.there b o' z1 (by rw [n1]; intro z'; cases z')
  · obtain ⟨m1, z1⟩ := I.base.tbls b ps z
    obtain ⟨m2, z2⟩ := F.tbls b _ z1
    exact ⟨m1 ++ m2, by rw [z2, Array.append_assoc]⟩
/-- exceptions noted on their way through a loop -/
theorem ownX : PassesOwn (model P w) (cxOf (CXf P w) P w K mg base N qual scope f cd A outer s H E).A (cxOf (CXf P w) P w K mg base N qual scope f cd A outer s H E).env (cxOf (CXf P w) P w K mg base N qual scope f cd A outer s H E).xe := by
  intro e s' h
  exact PassesOwn.leaving (M := model P w) (A := A.deeper (envOfC qual scope s.heap.objs.size f cd)) (env := envOfC qual scope s.heap.objs.size f cd) (Q₁ := fun e s'' => CXf P w outer H s E e s'') (E₁ := fun e' s'' => CXf P w outer H s E e' s'') e s' h
end
/-- no exception: a callee whose promise wants none -/
theorem passN {P : Program} {w : World} {X : Cx} : Passes (CXf P w) X E0 := fun _ _ _ _ _ _ _ h => by
  obtain ⟨_, _, _, _, _, _, _, q⟩ := h
  exact q.elim
end L2

set_option maxHeartbeats 4000000
namespace L2
open PySem PySem.Spec PyProof.Rows PySem.W

abbrev bmV : List Value := [.type "ValueError", .type "Exception", .type "BaseException", .type "object"]
/-- an own exception class under ValueError, as the top has made it -/
structure ECls (K : PySem.W.Frag) (C : Addr) : Prop where
  ex : PySem.W.excIn K C bmV "ValueError.__new__" = true
  kp : PySem.W.keepIn K (.ref C) = true
  ga : PySem.W.findIn K (.ref C) "__getattribute__" = some (some (.builtin "BaseException.__getattribute__"))
  gt : PySem.W.findIn K (.ref C) "__getattr__" = some none
  cl : PySem.W.findIn K (.ref C) "__class__" = some (some (.builtin "object.__class__"))
  mo : PySem.W.mroIn K C (.type "object") = some true
  mb : PySem.W.mroIn K C (.type "BaseException") = some true
  ty : (PySem.W.clsIn K C).isSome = true
theorem ecls_obj {K : PySem.W.Frag} {h : Heap} {C : Addr} {bmB : List Value} {newId : String} (X : K.In h) (q : PySem.W.excIn K C bmB newId = true) :
    ∃ bm N nm qn bs hdct sn sub ab col dd k0 k1 k2 k3 k5 mN, h.get? C = some (excClassObj nm qn C N bs bm hdct sn sub ab col dd k0 k1 k2 k3 k5 newId) ∧ h.Ns N mN ∧ mN "__init__" = none ∧ OwnTail h bmB bm := by
  unfold PySem.W.excIn at q
  split at q
  · rename_i dd cd sl ho
    split at q
    · rename_i C' bm k0 k1 k2 k3 n k5 hm hs
      simp only [Bool.and_eq_true, beq_iff_eq, Bool.not_eq_true'] at q
      obtain ⟨⟨⟨⟨⟨rfl, rfl⟩, hdel⟩, ht⟩, hok⟩, hni⟩ := q
      obtain ⟨nm, bs, mro, ns, qn, hd, sn, sub, ab, col, del⟩ := cd
      dsimp only at hm hdel hok hni
      subst hm hdel
      have hsl : sl = #[k0, k1, k2, k3, some (.builtin n), k5] := by
        obtain ⟨l⟩ := sl
        simp only at hs
        rw [hs]
      subst hsl
      exact ⟨bm, ns, nm, qn, bs, hd, sn, sub, ab, col, dd, k0, k1, k2, k3, k5, _, X _ _ ho, .of_isNs (isNs_of_in X hok), nsMap_none_of_in X hok hni, tail_of_in X ht⟩
    · cases q
  · cases q
/-- an exception of the class at C stands at p -/
def IsX (p : Addr) (C : Value) (h : Heap) : Prop := ∃ o, h.get? p = some o ∧ o.cls = C
abbrev excO (p : Addr) (C : Value) : HO := .ext (IsX p C)
theorem IsX.ok {P : Program} {w : World} {H : Hp} {h : Heap} {p : Addr} {C : Value} (x : IsX p C h) : ObjOk P w H h p (excO p C) :=
  ⟨x, (let ⟨o, e, _⟩ := x; ⟨o, e⟩), fun h1 h2 ⟨o, e, r⟩ k => ⟨o, k o e, r⟩⟩

theorem ObjOk.get {P : Program} {w : World} {H : Hp} {h : Heap} {a : Addr} {o : HO} (x : ObjOk P w H h a o) : ∃ u, h.get? a = some u := by
  cases o with
  | lst xs => obtain ⟨_, _, _, _, e⟩ := x; exact ⟨_, e⟩
  | tup xs => obtain ⟨_, _, _, ob, e, _⟩ := x; exact ⟨_, e⟩
  | dK kvs => obtain ⟨_, _, _, _, o, _, _, e, _⟩ := x; exact ⟨_, e⟩
  | dT kvs => obtain ⟨_, _, _, _, o, _, _, e, _⟩ := x; exact ⟨_, e⟩
  | set S n => obtain ⟨o, _, _, _, e, _⟩ := x; exact ⟨_, e⟩
  | ins C dx fs => obtain ⟨_, _, _, e, _⟩ := x; exact ⟨_, e⟩
  | own y => exact x
  | xd fs => obtain ⟨_, ⟨_, _, _, e, _⟩, _⟩ := x; exact ⟨_, e⟩
  | rng lo hi => obtain ⟨_, _, _, e⟩ := x; exact ⟨_, e⟩
  | frz ob u => obtain ⟨e, _⟩ := x; exact ⟨_, e⟩
  | tbl ps => exact ⟨_, (show h.get? a = some _ from x)⟩
  | met f y => exact ⟨_, (show h.get? a = some _ from x)⟩
  | ext φ => exact x.2.1
theorem HOk.freshN {P : Program} {w : World} {H : Hp} {h : Heap} {a : Addr} (x : HOk P w H h) (e : h.get? a = none) : H a = none := by
  cases q : H a with
  | none => rfl
  | some u => obtain ⟨o, z⟩ := (x a u q).get; rw [e] at z; cases z
theorem Inv.laidN {X : Cx} {pins : List (Addr × Obj)} {σ : St} {H : Hp} {s : Shared} {h' : Heap} {a : Addr} {o : HO} {t' : Nat} (I : Inv X pins σ H s) (k : ∀ b u, s.heap.get? b = some u → h'.get? b = some u) (hp : s.heap.get? a = none) (new : ObjOk X.prog X.w (upd H a o) h' a o) :
    Inv X pins σ (upd H a o) { s with heap := h', toks := t' } := by
  have hn := I.hok.freshN hp
  have ne : ∀ b u, s.heap.get? b = some u → b ≠ a := fun b u e z => by rw [z, hp] at e; cases e
  refine I.un ⟨fun b u e _ _ _ => k b u e, fun b u e _ _ _ => ⟨u.slots, k b u e⟩, fun b u e n _ => by rw [upd_ne (ne b u e)]; exact n, fun b u e _ => ⟨u, k b u e⟩, fun b xs e => by rw [upd_ne (ne_of_none e hn)]; exact e, fun b u v e => by rw [upd_ne (ne_of_none e hn)]; exact e, fun b ps e => ⟨#[], by rw [upd_ne (ne_of_none e hn), e]; simp⟩⟩ fun b u e => ?_
  by_cases hb : b = a
  · subst hb; rw [upd_same] at e; cases e; exact new
  · rw [upd_ne hb] at e
    exact (I.hok b u e).stay (fun c v _ q => k c v q) (fun c q => by rw [upd_ne (ne_of_none q hn)]; exact q) fun c xs q => by rw [upd_ne (ne_of_none q hn)]; exact q
section
variable {prog : Program} {w : World} {A : Around} {E : Value → Shared → Prop} {s : Shared} {K : PySem.W.Frag} {x C : Addr} {ox : Obj}
theorem type_at {M : Model} {h : Heap} (hx : h.get? x = some ox) (hc : ox.cls = .ref C) : PySem.W.Looks M h (typeOf (.ref x)) (.ref C) := hc ▸ (PySem.W.Looks.ld hx).andThen .now
open Builtin Builtin.ObjectAttr Builtin.Getset_descriptor in
theorem class_getX {tp : Value} {R : Result → Shared → Prop} (X : K.In s.heap) (hx : s.heap.get? x = some ox) (hc : ox.cls = .ref C) (hm : PySem.W.mroIn K C (.type "object") = some true)
    (h : R (.ok (.ret (.ref C))) s) : codeAny (model prog w) A (.call (.builtin "getset_descriptor.__get__") ⟨[.builtin "object.__class__", .ref x, tp], []⟩) R s := by
  obtain ⟨hh, g, dr, t, os⟩ := s
  have L0 := type_at (M := model prog w) hx hc
  have L1 := looks_mroIn (M := model prog w) X hm
  refine codeAny_call_builtin KF.slot_gs.plain KF.entry_gs (KF.slot_gs.check _ _ _ _ _ _ _ _ KF.type_class (KF.args_gs _ _ _) ?_)
  unfold Builtin.«getset_descriptor.__get__» descrGet
  rw [dga_obj]
  refine wpAny_bind (wpAny_pure ?_)
  unfold descrGetter descrCheckInstance descrNameAndClass isInstance
  simp only [KF.owner_class]
  repeat lk
  refine ⟨Code.quiet_builtin _ (by decide +kernel), codeAny_builtin KF.entry_class ?_⟩
  unfold Builtin.«object.__class__» shownTypeOf
  repeat lk
  exact h
theorem exc_matches {M : Model} {D : Addr} {b : Bool} {Q : Bool → Shared → Prop} {h : Heap} {g d t os} (X : K.In h) (TD : ECls K D) (hx : h.get? x = some ox) (hc : ox.cls = .ref C) (sub : PySem.W.subIn K (.ref C) (.ref D) = some b) (hq : Q b ⟨h, g, d, t, os⟩) :
    wpAny M A (excMatches (.ref x) (.ref D)) Q E ⟨h, g, d, t, os⟩ := by
  obtain ⟨bm, N, nm, qn, bs, hdct, sn, sub', ab, col, dd, k0, k1, k2, k3, k5, mN, hC, hN, hni, TL⟩ := ecls_obj X TD.ex
  have hcB : (Value.ref D :: bm).contains (.type "BaseException") = true := by rw [List.contains_cons, TL.hasType PySem.F.excBase_ValueError.hasBase, Bool.or_true]
  have L1 := looks_subIn (M := M) X sub
  have f := tc_notTuple
  unfold excMatches
  repeat (first | (with_reducible refine wpAny_loadPart_at hx ?_; rw [hc]) | with_reducible refine wpAny_loadPart_at hC ?_ | with_reducible refine L1.at ?_ | (with_reducible refine wpAny_isSubtype_exc hC ?_; rw [hcB]) | wp_step)
  cases b
  · repeat (first | exact hq | wp_step)
  · repeat (first | exact hq | wp_step)
theorem exc_entry {tk : Tok} {Q : Fin → Shared → Prop} {h : Heap} {g d t os} (T : ECls K C) (X : K.In h) (hx : h.get? x = some ox) (hc : ox.cls = .ref C) (hq : Q (.done (.ret (.ref C))) ⟨h, g, d, t, os⟩) :
    wpAny (model prog w) A (Builtin.«object.__getattribute__» ⟨[.ref x, .str "__class__" tk], []⟩) Q E ⟨h, g, d, t, os⟩ := by
  have f5 := F.typeOf_bexc_args
  have hT5 : (⟨h, g, d, t, os⟩ : Shared).TypeIs (.builtin "object.__class__") "getset_descriptor" := PySem.F.typeOf_object_class
  have f5' := PySem.F.typeOf_object_class
  have f6 := F.slot_gs_get.lookup
  have f7 := F.slot_gs_set.lookup
  have L1 := looks_findIn (M := model prog w) X T.cl
  repeat (any_goals (first | assumption | (with_reducible refine wpAny_loadPart_at hx ?_; rw [hc]) | with_reducible refine L1.at ?_ | wp_step))
  refine class_getX (s := ⟨h, g, d, t, os⟩) X hx hc T.mo ?_
  repeat (any_goals (first | assumption | wp_step))
theorem exc_check {M : Model} {nameV : Value} {Q : Unit → Shared → Prop} {h : Heap} {g d t os} (T : ECls K C) (X : K.In h) (hx : h.get? x = some ox) (hc : ox.cls = .ref C) (hq : Q () ⟨h, g, d, t, os⟩) :
    wpAny M A (checkBuiltinCall "BaseException.__getattribute__" ⟨[.ref x, nameV], []⟩) Q E ⟨h, g, d, t, os⟩ := by
  have hk : builtinKind "BaseException.__getattribute__" = some .slot := by decide +kernel
  have hsplit : splitId "BaseException.__getattribute__" = some ("BaseException", "__getattribute__") := by decide +kernel
  have ha := F.args_bexc_ga (.ref x) nameV
  have L1 := looks_mroIn (M := M) X T.mb
  simp only [checkBuiltinCall, hk, hsplit]
  refine wpAny_bind ?_
  · unfold isInstance
    repeat (first | (with_reducible refine wpAny_loadPart_at hx ?_; rw [hc]) | with_reducible refine L1.at ?_ | wp_step)
    exact hq
theorem exc_by {tk : Tok} {fill expr : Bool} {Q : Value → Shared → Prop} {h : Heap} {g d t os} (T : ECls K C) (X : K.In h) (hx : h.get? x = some ox) (hc : ox.cls = .ref C) (hq : Q (.ref C) ⟨h, g, d, t, os⟩) :
    wpAny (model prog w) A (getAttrBy (.ref x) (.str "__class__" tk) fill expr) Q E ⟨h, g, d, t, os⟩ := by
  have f3 := F.attr_ValueError.ga.bind (.ref x)
  have hx0 : (expr && onTheHeap (Value.builtin "BaseException.__getattribute__")) = false := by cases expr <;> rfl
  have hx2 : (Value.builtin "BaseException.__getattribute__" == Value.builtin "object.__getattribute__") = false := by decide +kernel
  have hx1 : (onTheHeap (Value.ref C) && Value.builtin "BaseException.__getattribute__" == Value.builtin "object.__getattribute__") = false := by rw [hx2]; rfl
  have L1 := looks_findIn (M := model prog w) X T.ga
  have L2 := looks_findIn (M := model prog w) X T.gt
  repeat (any_goals (first | assumption | (with_reducible refine wpAny_loadPart_at hx ?_; rw [hc]) | with_reducible refine L1.at ?_ | with_reducible refine L2.at ?_ | wp_step))
  refine codeAny_call_builtin F.attr_ValueError.ga.plain F.entry_bexc_ga (exc_check T X hx hc (exc_entry T X hx hc ?_))
  repeat (any_goals (first | assumption | wp_step))
theorem exc_attr {Q : Option Value → Shared → Prop} {h : Heap} {g d t os} (T : ECls K C) (X : K.In h) (hx : h.get? x = some ox) (hc : ox.cls = .ref C) (hq : Q (some (.ref C)) ⟨h, g, d, t + 1, os⟩) :
    wpAny (model prog w) A (getAttr? (.ref x) "__class__") Q E ⟨h, g, d, t, os⟩ := by
  unfold getAttr?
  repeat (any_goals (first | assumption | with_reducible apply exc_by T X hx hc | wp_step))
theorem kitx_exc (T : ECls K C) : PySem.W.KitX K (.ref x) (.ref C) (IsX x (.ref C)) where
  ty := fun _ _ _ ⟨o, e, c⟩ => type_at e c
  it := fun _ _ X _ => by
    obtain ⟨cdD, hcD⟩ := Option.isSome_iff_exists.mp T.ty
    unfold clsIn at hcD
    split at hcD
    · rename_i c' d' cd' sl' ho
      intro A' Q' E' s' k q
      unfold isType loadHead
      exact wpAny_bind (wpAny_loadPart (k _ _ (X _ _ ho)) (wpAny_pure q))
    · cases hcD
  ne := fun h tp dd its n sl X htp => by
    obtain ⟨cdD, hcD⟩ := Option.isSome_iff_exists.mp T.ty
    refine Bool.eq_false_iff.mpr fun q => ?_
    have e : C = tp := Value.ref.inj (beq_iff_eq.mp q)
    subst e
    unfold clsIn at hcD
    split at hcD
    · rename_i c' d' cd' sl' ho
      have z := (X _ _ ho).symm.trans htp
      cases z
    · cases hcD
  ca := fun {_ _ _ _ _ s} X ⟨o, e, c⟩ k => by
    obtain ⟨h, g, d, t, os⟩ := s
    exact exc_attr T X e c k
end

/-! ### isinstance of one class -/
section
variable {X : Cx}
/-- the classes' answers for a value: as the layer's, or an exception's -/
inductive TyX (K : PySem.W.Frag) (H : Hp) : V → Value → Prop where
  | of {v : V} {t : Value} (h : TyOf K H v t) : TyX K H v t
  | exc {p C : Addr} (T : ECls K C) (e : H p = some (excO p (.ref C))) : TyX K H (.ref p) (.ref C)
def rIsi (K : PySem.W.Frag) : List V → Hp → VK → Prop := fun xs H Q => ∃ x c cv t b, xs = [x, c] ∧ (c = .ty cv ∧ PySem.W.kitOne K t (.type cv) = some b) ∧ TyX K H x t ∧ Q (.bl b) H
theorem call_isi : CallR X (.builtin "isinstance") (rIsi X.K) := by
  intro pins s σ H xs us Q I r h
  obtain ⟨x, c, cv, t, b, rfl, ⟨rfl, e⟩, ty, q⟩ := h
  obtain ⟨u1, u2, rfl, r1, r2⟩ := r.two
  obtain rfl : u2 = Value.type cv := r2
  cases ty with
  | of ty => exact isinst_ok I r1 ty e fun tk => ⟨.bl b, H, I.tok tk, rfl, q⟩
  | @exc p C T ea =>
    obtain rfl : u1 = Value.ref p := r1
    have p1 : IsX p (.ref C) s.heap := (I.hok p _ ea).1
    exact PySem.W.kia_one (kitx_exc T) I.kIn p1 e (fun z => nomatch z) fun tk => ⟨.bl b, H, I.tok tk, rfl, q⟩
/-- .. of an own class -/
def rIsiC (K : PySem.W.Frag) : List V → Hp → VK → Prop := fun xs H Q => ∃ x c t b, xs = [x, .ref c] ∧ PySem.W.kitOne K t (.ref c) = some b ∧ TyX K H x t ∧ Q (.bl b) H
theorem call_isiC : CallR X (.builtin "isinstance") (rIsiC X.K) := by
  intro pins s σ H xs us Q I r h
  obtain ⟨x, c, t, b, rfl, e, ty, q⟩ := h
  obtain ⟨u1, u2, rfl, r1, r2⟩ := r.two
  obtain rfl : u2 = Value.ref c := r2
  cases ty with
  | of ty => exact isinst_ok I r1 ty e fun tk => ⟨.bl b, H, I.tok tk, rfl, q⟩
  | @exc p C T ea =>
    obtain rfl : u1 = Value.ref p := r1
    have p1 : IsX p (.ref C) s.heap := (I.hok p _ ea).1
    exact PySem.W.kia_one (kitx_exc T) I.kIn p1 e (fun z => nomatch z) fun tk => ⟨.bl b, H, I.tok tk, rfl, q⟩
end

/-! ### an exception is made -/
section
variable {X : Cx} {x : Str} {C : Addr} {np cpos pos : Pos} {e : Expr} {es : List Expr} {t : TA}
theorem made_isX {h h' : Heap} {p : Addr} {C : Value} {vs : List Value} (m : Heap.MadeExcOf h h' p C vs) : IsX p C h' := by
  obtain ⟨t, e, _⟩ := m.there
  exact ⟨_, e, rfl⟩
/-- C(..) as a value -/
def tXMake (C : Addr) (t : TA) : TE := fun σ H Q => t σ H fun vs H1 => vs.length ≤ sizeLine ∧ ∀ p, H1 p = none → Q (.ref p) (upd H1 p (excO p (.ref C)))
theorem run_xmake {pins : List (Addr × Obj)} {σ : St} {H : Hp} {s : Shared} {us : List Value} {Q : VK} (T : ECls X.K C) (I : Inv X pins σ H s) (hl : us.length ≤ sizeLine) (h : ∀ p, H p = none → Q (.ref p) (upd H p (excO p (.ref C)))) :
    wpAny (model X.prog X.w) X.A (call (.ref C) us) (EP X pins σ Q) X.xe s := by
  obtain ⟨bm, N, nm, qn, bs, hdct, sn, sub, ab, col, dd, k0, k1, k2, k3, k5, mN, hC, hN, hni, TL⟩ := ecls_obj I.kIn T.ex
  obtain ⟨hh, g, d, tk, os⟩ := s
  refine wpAny_call_exc_subT (hrest := hl) PySem.F.excBase_ValueError TL hC hN hni fun h' p m => ?_
  have hn : H p = none := I.hok.freshN m.new
  exact ⟨.ref p, upd H p (excO p (.ref C)), I.laidN (t' := tk) (fun b u e => m.keeps b u e) m.new (made_isX m).ok, rfl, h p hn⟩
/-- C(e, ..), C() -/
theorem pe_xmake (T : ECls X.K C) (hg : Gl X x) (hm : X.mg x = some (.ref C)) (ha : PA X (e :: es) t) (hdb : (x == ("__debug__" : Str)) = false := by decide) (he : starEach (e :: es) X.env = (false, eval e X.env) :: starEach es X.env := by rfl) (hpl : (backTo pos (starEach es X.env)).any (·.1) = false := by rfl) :
    PE X (.Call (.Name x np) (e :: es) [] pos) (tXMake C t) := by
  intro pins s σ H Q I h
  refine wpAny_Call_Name_kw (ld_glob I hg hm ?_ hdb)
  refine PySem.W.callWith_K (h₀ := X.base) I.ok.mod.kin T.kp (thn (ha pos pins s σ H _ I h) fun us s1 ⟨vs, H1, I1, r, hl, q⟩ => ⟨I1.kIn, ?_⟩) he hpl
  exact run_xmake (us := us) T I1 (by rw [← r.length]; exact hl) q
theorem pe_xmake0 (T : ECls X.K C) (hg : Gl X x) (hm : X.mg x = some (.ref C)) (hdb : (x == ("__debug__" : Str)) = false := by decide) : PE X (.Call (.Name x np) [] [] pos) (tXMake C tNil) := by
  intro pins s σ H Q I h
  refine wpAny_Call_Name_kw (ld_glob I hg hm ?_ hdb)
  exact PySem.W.callWith_K0 I.kIn T.kp (run_xmake (us := []) T I (Nat.zero_le _) h.2)
/-- raise C(e, ..): q is what is wanted of it -/
def tRaise (q : Hp → Prop) (t : TA) : TS := fun _ σ H => t σ H fun vs H1 => vs.length ≤ sizeLine ∧ q H1
theorem ps_raise {q : Hp → Prop} (hc : X.calm = true) (T : ECls X.K C) (hg : Gl X x) (hm : X.mg x = some (.ref C)) (ha : PA X (e :: es) t)
    (hxe : ∀ (pins : List (Addr × Obj)) (σ : St) (H1 : Hp) (s1 : Shared) (h' : Heap) (p : Addr) (vs : List Value), Inv X pins σ H1 s1 → Heap.MadeExcOf s1.heap h' p (.ref C) vs → q H1 → X.xe (.ref p) { s1 with heap := h' })
    (hdb : (x == ("__debug__" : Str)) = false := by decide) (he : starEach (e :: es) X.env = (false, eval e X.env) :: starEach es X.env := by rfl) (hpl : (backTo cpos (starEach (e :: es) X.env)).any (·.1) = false := by rfl) :
    PS X (.Raise (some (.Call (.Name x np) (e :: es) [] cpos)) none pos) (tRaise q t) := by
  intro pins s σ H D I h
  obtain ⟨bm, N, nm, qn, bs, hdct, sn, sub, ab, col, dd, k0, k1, k2, k3, k5, mN, hC, hN, hni, TL⟩ := ecls_obj I.ok.mod.kin T.ex
  refine wpAny_Raise_call_subT (C := C) (nm := nm) (q := qn) (N := N) (bs := bs) (bm := bm) (hdct := hdct) (sn := sn) (sub := sub) (ab := ab) (col := col) (dd := dd) (k0 := k0) (k1 := k1) (k2 := k2) (k3 := k3) (k5 := k5)
    PySem.F.excBase_ValueError (mN := mN) (TL.hasType PySem.F.excBase_ValueError.hasBase) (I.ok.hd hc) hpl hni (ld_glob I hg hm ⟨rfl, ?_⟩ hdb)
  have h1 := ha cpos pins s σ H _ I h
  rw [he] at h1 ⊢
  exact Calls.evalArgs_plain (wpAny_mono h1 (fun us s2 ⟨vs, H2, I2, r, hl, z⟩ => ⟨rfl, (by show us.length ≤ sizeLine; rw [← r.length]; exact hl), I2.bk _ _ hC, hN.keeps I2.bk, TL.keeps I2.bk, fun h' p m => hxe pins σ H2 s2 h' p us I2 m z⟩) fun _ _ y => y)
end
end L2

set_option maxHeartbeats 4000000
namespace L2
open PySem PySem.Spec PyProof.Rows PySem.W
theorem refs_of : ∀ {as : List Addr} {its : List Value}, Vals (as.map V.ref) its → its = as.map Value.ref
  | [], _, r => by cases r; rfl
  | a :: as, _, r => by
    cases r with
    | cons r rr =>
      obtain rfl := (show _ = Value.ref a from r)
      rw [refs_of rr]; rfl
section
variable {X : Cx}
/-! ### a range as a value, its list -/
theorem call_rangeV : CallR X (.type "range") (fun xs H Q => ∃ n, xs = [.int n] ∧ ∀ p, H p = none → Q (.ref p) (upd H p (.rng 0 n))) := by
  intro pins s σ H xs us Q I r h
  obtain ⟨n, rfl, q⟩ := h
  obtain ⟨u1, rfl, t, rfl⟩ := r.one
  refine call_range_1 ⟨.ref s.heap.objs.size, _, I.laid (o := .rng 0 n) (fun b u e => Heap.get?_push_of_some _ e) (Nat.le_refl _) ⟨_, _, _, Heap.get?_push_size _ rfl⟩, rfl, q _ I.fresh⟩
theorem call_listR (hc : X.calm = true) : CallR X (.type "list") (fun xs H Q => ∃ (p : Addr) (n : Nat), xs = [.ref p] ∧ H p = some (.rng 0 n) ∧ n ≤ 1000 ∧ ∀ l, H l = none → Q (.ref l) (upd H l (.lst ((List.range n).map fun (i : Nat) => V.int i)))) := by
  intro pins s σ H xs us Q I r h
  obtain ⟨p, n, rfl, e, hn, q⟩ := h
  obtain ⟨u1, rfl, r1⟩ := r.one
  obtain rfl : u1 = Value.ref p := r1
  obtain ⟨t, u, v, hp⟩ := (show ObjOk X.prog X.w H s.heap p (.rng 0 n) from I.hok p _ e)
  refine call_list_range (n := n) (I.ok.hd hc) (show IsRange s.heap p 0 n 1 t u v from hp) (small_one (by omega) (by omega) (by omega) (by omega)) (by rw [rangeSize_one]; split <;> omega) (by omega) fun h' tk acc c k g it => ?_
  obtain ⟨i1, i2⟩ := it
  refine ⟨.ref s.heap.objs.size, _, I.laidN (t' := tk) (o := .lst ((List.range n).map fun (i : Nat) => V.int i)) (fun b u e => k b u e) (Heap.get?_none_of_le (Nat.le_refl _)) ⟨?_, acc.toList, c, ?_, by simpa using g⟩, rfl, q _ I.fresh⟩
  · rw [List.length_map, List.length_range]
    exact Nat.le_trans hn (by decide)
  · have go : ∀ (m : Nat) (l : List Value), l.length = m → (∀ (j : Nat) v, l[j]? = some v → ∃ t, v = Value.int (0 + (j : Int) * 1) t) → Vals ((List.range m).map fun (i : Nat) => V.int i) l := by
      intro m
      induction m with
      | zero => intro l hl _; cases l with
        | nil => exact .nil
        | cons _ _ => cases hl
      | succ m ih =>
        intro l hl hv
        have hne : l ≠ [] := by intro z; rw [z] at hl; cases hl
        have el : l = l.dropLast ++ [l.getLast hne] := (List.dropLast_concat_getLast hne).symm
        rw [List.range_succ, List.map_append, el]
        have hdl : l.dropLast.length = m := by rw [List.length_dropLast, hl]; rfl
        refine Vals.append (ih _ hdl fun j v hj => hv j v ?_) (.cons ?_ .nil)
        · rw [el]
          have hj' : j < l.dropLast.length := (List.getElem?_eq_some_iff.mp hj).1
          rw [List.getElem?_append_left hj']
          exact hj
        · obtain ⟨t, ht⟩ := hv m (l.getLast hne) (by
            rw [List.getLast_eq_getElem, List.getElem?_eq_getElem (by omega : m < l.length)]
            simp [hl])
          exact ⟨t, by rw [ht]; simp⟩
    exact go n acc.toList (by simpa using i1) fun j v hj => i2 j v (by simpa using hj)
end
end L2

set_option maxHeartbeats 4000000
namespace L2
open PySem PySem.Spec PyProof.Rows PySem.W
/-! ### == and != of two lists -/
def allEq (e : V → V → Bool) : List V → List V → Bool
  | [], [] => true
  | x :: xs, y :: ys => e x y && allEq e xs ys
  | _, _ => false
theorem allEq_range {e : V → V → Bool} : ∀ {xs ys : List V}, xs.length = ys.length → allEq e xs ys = (List.range xs.length).all fun i => e (xs.getD i .non) (ys.getD i .non)
  | [], [], _ => rfl
  | x :: xs, y :: ys, h => by
    have h' : xs.length = ys.length := by simpa using h
    rw [allEq, allEq_range h', List.length_cons, List.range_succ_eq_map, List.all_cons, List.all_map]
    rfl
  | [], _ :: _, h => by simp at h
  | _ :: _, [], h => by simp at h
theorem allEq_len {e : V → V → Bool} : ∀ {xs ys : List V}, xs.length ≠ ys.length → allEq e xs ys = false
  | [], [], h => absurd rfl h
  | x :: xs, y :: ys, h => by
    have h' : xs.length ≠ ys.length := fun z => h (by simp [z])
    rw [allEq, allEq_len h', Bool.and_false]
  | [], _ :: _, _ => rfl
  | _ :: _, [], _ => rfl
section
variable {X : Cx}
/-- the items' own answers, in this heap -/
def ElEq (X : Cx) (H : Hp) (e : V → V → Bool) (x y : V) : Prop := ∀ (pins : List (Addr × Obj)) (s : Shared) (σ : St) (A : Around) (u v : Value), Inv X pins σ H s → A.units + 1 < cLine → RelV x u → RelV y v → SeqAt.EqAt A s u v (e x y)
theorem elEq_flat {H : Hp} {x y : V} (fx : flatV x = true) (fy : flatV y = true) : ElEq X H eqV x y := fun _ _ _ _ _ _ _ _ rx ry => eqAt_V rx ry fx fy
def rLEq (X : Cx) (neg : Bool) (e : V → V → Bool) : R2 := fun x y H Q => ∃ p q xs ys, x = .ref p ∧ y = .ref q ∧ SqL X.K H p xs ∧ SqL X.K H q ys ∧ (∀ i, i < xs.length → i < ys.length → ElEq X H e (xs.getD i .non) (ys.getD i .non)) ∧ Q (.bl (if neg then !allEq e xs ys else allEq e xs ys)) H
theorem items_eq {pins : List (Addr × Obj)} {s : Shared} {σ : St} {H : Hp} {A : Around} {e : V → V → Bool} {xs ys : List V} {us vs : List Value} (I : Inv X pins σ H s) (hu : A.units + 1 < cLine) (rx : Vals xs us) (ry : Vals ys vs)
    (he : ∀ i, i < xs.length → i < ys.length → ElEq X H e (xs.getD i .non) (ys.getD i .non)) : ∀ j (h1 : j < us.toArray.size) (h2 : j < vs.toArray.size), SeqAt.EqAt A s us.toArray[j] vs.toArray[j] (e (xs.getD j .non) (ys.getD j .non)) := by
  intro j h1 h2
  have j1 : j < xs.length := by rw [rx.length]; simpa using h1
  have j2 : j < ys.length := by rw [ry.length]; simpa using h2
  have e1 : xs[j]? = some (xs.getD j .non) := by rw [List.getD_eq_getElem?_getD, List.getElem?_eq_getElem j1]; rfl
  have e2 : ys[j]? = some (ys.getD j .non) := by rw [List.getD_eq_getElem?_getD, List.getElem?_eq_getElem j2]; rfl
  obtain ⟨u, hu1, ru⟩ := rx.get e1
  obtain ⟨v, hv1, rv⟩ := ry.get e2
  have eu : us.toArray[j] = u := by
    have : us[j]? = some us.toArray[j] := by simp at h1 ⊢
    rw [hu1] at this; exact (Option.some.inj this).symm
  have ev : vs.toArray[j] = v := by
    have : vs[j]? = some vs.toArray[j] := by simp at h2 ⊢
    rw [hv1] at this; exact (Option.some.inj this).symm
  rw [eu, ev]
  exact he j j1 j2 pins s σ A u v I hu ru rv
theorem op_neL {e : V → V → Bool} (hu : X.A.units + 2 < cLine) : OpR X (compareOp .NotEq) (rLEq X true e) := by
  intro pins s σ H x y v u Q I rx ry h
  obtain ⟨p, q, xs, ys, rfl, rfl, hp, hq, he, k⟩ := h
  obtain rfl : v = Value.ref p := rx
  obtain rfl : u = Value.ref q := ry
  obtain ⟨us, r1, p1, _⟩ := I.list hp
  obtain ⟨vs, r2, p2, _⟩ := I.list hq
  by_cases hl : xs.length = ys.length
  · refine SeqAt.RcNeAt.lists (e := fun i => e (xs.getD i .non) (ys.getD i .non)) p1.isList p2.isList (by simp only [List.size_toArray]; rw [← r1.length, ← r2.length]; exact hl) (by omega) (items_eq I (by show X.A.units + 1 + 1 < cLine; omega) r1 r2 he) _ _ _ _ ⟨.bl _, H, I, rfl, ?_⟩
    rw [show us.toArray.size = xs.length by rw [List.size_toArray, r1.length], ← allEq_range hl]
    exact k
  · refine SeqAt.RcNeAt.lists_lengths p1.isList p2.isList (by simp only [List.size_toArray]; rw [← r1.length, ← r2.length]; simpa using hl) (by omega) _ _ _ _ ⟨.bl _, H, I, rfl, ?_⟩
    have k' := k
    rw [allEq_len hl] at k'
    exact k'
theorem op_eqL {e : V → V → Bool} (hu : X.A.units + 2 < cLine) : OpR X (compareOp .Eq) (rLEq X false e) := by
  intro pins s σ H x y v u Q I rx ry h
  obtain ⟨p, q, xs, ys, rfl, rfl, hp, hq, he, k⟩ := h
  obtain rfl : v = Value.ref p := rx
  obtain rfl : u = Value.ref q := ry
  obtain ⟨us, r1, p1, _⟩ := I.list hp
  obtain ⟨vs, r2, p2, _⟩ := I.list hq
  by_cases hl : xs.length = ys.length
  · refine SeqAt.eq_listAt (e := fun i => e (xs.getD i .non) (ys.getD i .non)) p1.isList p2.isList (by simp only [List.size_toArray]; rw [← r1.length, ← r2.length]; exact hl) (by omega) (items_eq I (by show X.A.units + 1 + 1 < cLine; omega) r1 r2 he) ⟨.bl _, H, I, rfl, ?_⟩
    rw [show us.toArray.size = xs.length by rw [List.size_toArray, r1.length], ← allEq_range hl]
    exact k
  · refine SeqAt.eq_list_lengthsAt p1.isList p2.isList (by simp only [List.size_toArray]; rw [← r1.length, ← r2.length]; simpa using hl) (by omega) ⟨.bl _, H, I, rfl, ?_⟩
    have k' := k
    rw [allEq_len hl] at k'
    exact k'
theorem call_anyB (hc : X.calm = true) : CallR X (.builtin "any") (fun xs H Q => ∃ (p : Addr) (bs : List Bool), xs = [.ref p] ∧ SqL X.K H p (bs.map V.bl) ∧ Q (.bl (bs.any id)) H) := by
  intro pins s σ H xs us Q I r h
  obtain ⟨p, bs, rfl, hp, q⟩ := h
  obtain ⟨u1, rfl, r1⟩ := r.one
  obtain rfl : u1 = Value.ref p := r1
  obtain ⟨its, rv, pl, hz⟩ := I.list hp
  have hits : its = bs.map Value.bool := by
    have go : ∀ (bs : List Bool) (its : List Value), Vals (bs.map V.bl) its → its = bs.map Value.bool := by
      intro bs
      induction bs with
      | nil => intro its r; cases r; rfl
      | cons b bs ih =>
        intro its r
        cases r with
        | cons r rr =>
          obtain rfl := (show _ = Value.bool b from r)
          rw [ih _ rr]; rfl
    exact go bs its rv
  subst hits
  obtain ⟨ob, hob, _⟩ := id pl.isList
  have hlt : p < s.heap.objs.size := Heap.lt_size hob
  refine call_any_walk (wpAny_pyIter_list pl.isList ⟨s.heap.objs.size, _, _, _, _, _, fun i => bs.getD i false, rfl, Walks.list (show X.A.in1.handled = none from I.ok.hd hc) _ p (Nat.ne_of_lt hlt) _, ⟨⟨_, Heap.get?_push_size _ rfl, rfl, rfl⟩, pl.isList.push _⟩, fun i v s1 Q' E' hv hq => ?_, fun h' tk k => ?_⟩)
  · have hv' : (bs.map Value.bool)[i]? = some v := by simpa using hv
    rw [List.getElem?_map] at hv'
    cases eb : bs[i]? with
    | none => rw [eb] at hv'; cases hv'
    | some b =>
      rw [eb] at hv'
      obtain rfl : Value.bool b = v := Option.some.inj hv'
      have : bs.getD i false = b := by rw [List.getD_eq_getElem?_getD, eb]; rfl
      have hq' : Q' b s1 := by rw [← this]; exact hq
      exact wpAny_pure hq'
  · have keep : ∀ b o, s.heap.get? b = some o → h'.get? b = some o := fun b o e => k b o (by simpa using Nat.ne_of_lt (Heap.lt_size e)) (Heap.get?_push_of_some _ e)
    refine ⟨.bl (bs.any id), H, I.kept (t' := tk) keep, ?_, q⟩
    show Value.bool _ = Value.bool _
    congr 1
    have go : ∀ (bs : List Bool), ((List.range bs.length).any fun i => bs.getD i false) = bs.any id := by
      intro bs
      induction bs with
      | nil => rfl
      | cons b bs ih =>
        rw [List.length_cons, List.range_succ_eq_map, List.any_cons, List.any_map, List.any_cons, ← ih]
        rfl
    rw [← go bs]
    simp
theorem mt_join : MtR X "str.join" (fun x vs H Q => ∃ (z : Str) (p : Addr) (zs : List Str), x = .str z ∧ vs = [.ref p] ∧ SqL X.K H p (zs.map V.str) ∧ (zs.map (·.length)).sum + zs.length * z.length ≤ 16777216 ∧ Q (.str (Txt.join z zs)) H) := by
  intro pins s σ H x xs v us Q I rx r h
  obtain ⟨z, p, zs, rfl, rfl, hp, hz, q⟩ := h
  obtain ⟨t, rfl⟩ := rx
  obtain ⟨u1, rfl, r1⟩ := r.one
  obtain rfl : u1 = Value.ref p := r1
  obtain ⟨its, rv, pl, _⟩ := I.list hp
  have ss : StrsAre its zs := by
    have go : ∀ (zs : List Str) (its : List Value), Vals (zs.map V.str) its → StrsAre its zs := by
      intro zs
      induction zs with
      | nil => intro its r; cases r; exact .nil
      | cons b bs ih =>
        intro its r
        cases r with
        | cons r rr =>
          obtain ⟨t, rfl⟩ := r
          exact .cons _ _ (ih _ rr)
    exact go zs its rv
  exact join_list pl.isList (by simpa using ss) hz fun t' k => ⟨.str _, H, I.tok k, ⟨_, rfl⟩, q⟩
end
end L2

set_option maxHeartbeats 4000000
namespace L2
open PySem PySem.Spec PyProof.Rows

def blkName (sc scX : Scope) (y : Str × NameKind) : Bool := match y.2 with
  | .cell => false
  | .local => (match sc.names.lookup y.1 with | some .local => true | _ => false)
  | .free => (match scX.names.lookup y.1 with | some .cell => true | some .free => true | _ => false)
  | _ => true
def blkSrc (NB : List Str) (src : List (Option Nat)) (sc : Scope) (N : List Str) (i : Nat) : Bool := match NB[i]?, src[i]? with
  | some x, some (some j) => (N[j]? == some x) && (match sc.names.lookup x with | some .free => true | _ => false)
  | _, _ => true
def blkKind (sc : Scope) : Bool := match sc.kind with | .function => true | _ => false
def blkChk (NB : List Str) (src : List (Option Nat)) (sc scX : Scope) (N : List Str) : Bool :=
  blkKind sc && decide NB.Nodup && (src.length == NB.length) && (sc.names.all (blkName sc scX)) && (List.range NB.length).all (blkSrc NB src sc N)
theorem blk_of {NB : List Str} {src : List (Option Nat)} {sc : Scope} {X : Cx} (h : blkChk NB src sc X.env.scope X.N = true) : BlkScope NB src sc X := by
  unfold blkChk at h
  simp only [Bool.and_eq_true, decide_eq_true_eq, beq_iff_eq, List.all_eq_true] at h
  obtain ⟨⟨⟨⟨h1, h2⟩, h3⟩, h4⟩, h5⟩ := h
  refine ⟨?_, h2, h3, fun y hy z => ?_, fun y hy z => ?_, fun y hy z => ?_, fun i x j e1 e2 => ?_⟩
  · unfold blkKind at h1
    split at h1
    · assumption
    · cases h1
  · have := h4 y hy
    obtain ⟨n, k⟩ := y
    obtain rfl : k = .cell := z
    cases this
  · have := h4 y hy
    obtain ⟨n, k⟩ := y
    obtain rfl : k = .local := z
    dsimp only [blkName] at this ⊢
    split at this
    · assumption
    · cases this
  · have := h4 y hy
    obtain ⟨n, k⟩ := y
    obtain rfl : k = .free := z
    dsimp only [blkName] at this ⊢
    split at this
    · exact .inl (by assumption)
    · exact .inr (by assumption)
    · cases this
  · have hi : i < NB.length := (List.getElem?_eq_some_iff.mp e1).1
    have := h5 i (List.mem_range.mpr hi)
    unfold blkSrc at this
    rw [e1, e2] at this
    simp only [Bool.and_eq_true, beq_iff_eq] at this
    refine ⟨this.1, ?_⟩
    have t2 := this.2
    split at t2
    · assumption
    · cases t2

/-- a comprehension over a list: Pv by turn, the list so far, the block's values, the heap -/
theorem comp_list {K : PySem.W.Frag} {a D : Addr} {xs : List V} {g : TG} {tt : TT} {te : TE} {fin : Hp → Prop} {σB : St} {H0 : Hp} (Pv : Nat → List V → St → Hp → Prop) (h0 : Pv 0 [] σB H0)
    (hl : ∀ i ys σ H, i ≤ xs.length → Pv i ys σ H → SqL K H a xs)
    (hs : ∀ i x ys σ H (Kt : V → St → Hp → Prop) (Kf : St → Hp → Prop), xs[i]? = some x → Pv i ys σ H →
      (∀ v σ2 H4, H4 D = some (.lst ys) → ys.length < sizeLine → Pv (i + 1) (ys ++ [v]) σ2 (upd H4 D (.lst (ys ++ [v]))) → Kt v σ2 H4) → (∀ σ2 H3, Pv (i + 1) ys σ2 H3 → Kf σ2 H3) →
      g x σ H fun σ2 H2 => tt σ2 H2 fun b H3 => if b = true then te σ2 H3 fun v H4 => Kt v σ2 H4 else Kf σ2 H3)
    (hd : ∀ ys σ H, Pv xs.length ys σ H → fin H) : CompW (Itl K a) g tt te D fin σB H0 := by
  refine ⟨fun i m σ H => m = xs.length - i ∧ i ≤ xs.length ∧ ∃ ys, Pv i ys σ H, ⟨xs.length, by simp, Nat.zero_le _, [], h0⟩, ?_⟩
  rintro i m σ H ⟨rfl, hi, ys, p⟩
  have q := hl i ys σ H hi p
  by_cases hlt : i < xs.length
  · refine .inr ⟨⟨xs, xs[i], q, by simp [hlt]⟩, ?_⟩
    rintro x H' ⟨rfl, y⟩
    exact hs i x ys σ _ (fun v σ2 H4 => ∃ ys, H4 D = some (.lst ys) ∧ ys.length < sizeLine ∧ ∃ m', m' < xs.length - i ∧ m' = xs.length - (i + 1) ∧ i + 1 ≤ xs.length ∧ ∃ ys', Pv (i + 1) ys' σ2 (upd H4 D (.lst (ys ++ [v]))))
      (fun σ2 H3 => ∃ m', m' < xs.length - i ∧ m' = xs.length - (i + 1) ∧ i + 1 ≤ xs.length ∧ ∃ ys', Pv (i + 1) ys' σ2 H3) (y xs q) p
      (fun v σ2 H4 z1 z2 z3 => ⟨ys, z1, z2, _, by omega, rfl, hlt, _, z3⟩) (fun σ2 H3 z => ⟨_, by omega, rfl, hlt, _, z⟩)
  · have e : i = xs.length := by omega
    subst e
    exact .inl ⟨⟨xs, q, Nat.le_refl _⟩, hd ys σ H p⟩
/-- .. over a range -/
theorem comp_range {lo : Int} {n : Nat} {D : Addr} {g : TG} {tt : TT} {te : TE} {fin : Hp → Prop} {σB : St} {H0 : Hp} (Pv : Nat → List V → St → Hp → Prop) (h0 : Pv 0 [] σB H0)
    (hs : ∀ i ys σ H (Kt : V → St → Hp → Prop) (Kf : St → Hp → Prop), i < n → Pv i ys σ H →
      (∀ v σ2 H4, H4 D = some (.lst ys) → ys.length < sizeLine → Pv (i + 1) (ys ++ [v]) σ2 (upd H4 D (.lst (ys ++ [v]))) → Kt v σ2 H4) → (∀ σ2 H3, Pv (i + 1) ys σ2 H3 → Kf σ2 H3) →
      g (.int (lo + i)) σ H fun σ2 H2 => tt σ2 H2 fun b H3 => if b = true then te σ2 H3 fun v H4 => Kt v σ2 H4 else Kf σ2 H3)
    (hd : ∀ ys σ H, Pv n ys σ H → fin H) : CompW (Itr lo n) g tt te D fin σB H0 := by
  refine ⟨fun i m σ H => m = n - i ∧ i ≤ n ∧ ∃ ys, Pv i ys σ H, ⟨n, by simp, Nat.zero_le _, [], h0⟩, ?_⟩
  rintro i m σ H ⟨rfl, hi, ys, p⟩
  by_cases hlt : i < n
  · refine .inr ⟨hlt, ?_⟩
    rintro x H' ⟨rfl, rfl⟩
    exact hs i ys σ _ (fun v σ2 H4 => ∃ ys, H4 D = some (.lst ys) ∧ ys.length < sizeLine ∧ ∃ m', m' < n - i ∧ m' = n - (i + 1) ∧ i + 1 ≤ n ∧ ∃ ys', Pv (i + 1) ys' σ2 (upd H4 D (.lst (ys ++ [v]))))
      (fun σ2 H3 => ∃ m', m' < n - i ∧ m' = n - (i + 1) ∧ i + 1 ≤ n ∧ ∃ ys', Pv (i + 1) ys' σ2 H3) hlt p
      (fun v σ2 H4 z1 z2 z3 => ⟨ys, z1, z2, _, by omega, rfl, hlt, _, z3⟩) (fun σ2 H3 z => ⟨_, by omega, rfl, hlt, _, z⟩)
  · have e : i = n := by omega
    subst e
    exact .inl ⟨Nat.le_refl _, hd ys σ H p⟩
end L2

set_option maxHeartbeats 4000000
namespace L2
open PySem PySem.Spec PyProof.Rows

/-! ### lists of pairs as tables -/
section
variable {κ : Type} [DecidableEq κ]
def valV (kvs : List (κ × V)) (k : κ) : Option V := (kvs.find? fun kv => decide (kv.1 = k)).map (·.2)
/-- in its place, or at the end -/
def putK (kvs : List (κ × V)) (k : κ) (v : V) : List (κ × V) :=
  if (kvs.any fun kv => decide (kv.1 = k)) = true then kvs.map (fun kv => if kv.1 = k then (kv.1, v) else kv) else kvs ++ [(k, v)]
def dropK (kvs : List (κ × V)) (k : κ) : List (κ × V) := kvs.filter fun kv => decide (kv.1 ≠ k)

theorem valV_nil {k : κ} : valV ([] : List (κ × V)) k = none := rfl
theorem valV_pos {p : κ × V} {r : List (κ × V)} {k : κ} (e : p.1 = k) : valV (p :: r) k = some p.2 := by simp [valV, List.find?_cons, e]
theorem valV_neg {p : κ × V} {r : List (κ × V)} {k : κ} (e : ¬ p.1 = k) : valV (p :: r) k = valV r k := by simp [valV, List.find?_cons, e]
theorem valV_any (k : κ) : ∀ kvs : List (κ × V), (kvs.any fun kv => decide (kv.1 = k)) = (valV kvs k).isSome
  | [] => rfl
  | p :: r => by
    rw [List.any_cons]
    by_cases e : p.1 = k
    · simp only [valV_pos e, decide_eq_true e, Bool.true_or, Option.isSome_some]
    · rw [valV_neg e, decide_eq_false e, Bool.false_or]; exact valV_any k r
theorem valV_map (k j : κ) (y : V) : ∀ kvs : List (κ × V), valV (kvs.map fun kv => if kv.1 = k then (kv.1, y) else kv) j = (valV kvs j).map fun x => if j = k then y else x
  | [] => rfl
  | p :: r => by
    have ih := valV_map k j y r
    rw [List.map_cons]
    by_cases h : p.1 = k
    · rw [if_pos h]
      by_cases e : p.1 = j
      · rw [valV_pos (p := (p.1, y)) e, valV_pos e, Option.map_some, if_pos (e.symm.trans h)]
      · rw [valV_neg (p := (p.1, y)) e, valV_neg e, ih]
    · rw [if_neg h]
      by_cases e : p.1 = j
      · rw [valV_pos (p := p) e, valV_pos e, Option.map_some, if_neg (fun z => h (e.trans z))]
      · rw [valV_neg (p := p) e, valV_neg e, ih]
theorem valV_snoc (k j : κ) (y : V) : ∀ kvs : List (κ × V), valV kvs k = none → valV (kvs ++ [(k, y)]) j = if j = k then some y else valV kvs j
  | [], _ => by
    by_cases e : k = j
    · rw [if_pos e.symm]; exact valV_pos (p := (k, y)) e
    · rw [if_neg (fun z => e z.symm)]; exact valV_neg (p := (k, y)) e
  | p :: r, hn => by
    rw [List.cons_append]
    have hk : ¬ p.1 = k := fun z => by rw [valV_pos z] at hn; cases hn
    rw [valV_neg hk] at hn
    have ih := valV_snoc k j y r hn
    by_cases e : p.1 = j
    · rw [valV_pos e, valV_pos e, if_neg (fun z => hk (e.trans z))]
    · rw [valV_neg e, valV_neg e, ih]
theorem valV_put (kvs : List (κ × V)) (k j : κ) (y : V) : valV (putK kvs k y) j = if j = k then some y else valV kvs j := by
  unfold putK
  by_cases a : (kvs.any fun kv => decide (kv.1 = k)) = true
  · rw [if_pos a, valV_map]
    rw [valV_any] at a
    by_cases e : j = k
    · obtain ⟨x, hx⟩ := Option.isSome_iff_exists.mp a
      rw [if_pos e, e, hx, Option.map_some, if_pos rfl]
    · rw [if_neg e]
      cases valV kvs j with
      | none => rfl
      | some x => rw [Option.map_some, if_neg e]
  · rw [if_neg a]
    refine valV_snoc k j y kvs ?_
    rw [valV_any] at a
    cases q : valV kvs k with
    | none => rfl
    | some x => rw [q] at a; exact (a rfl).elim
theorem length_putK (kvs : List (κ × V)) (k : κ) (v : V) : (putK kvs k v).length ≤ kvs.length + 1 := by
  unfold putK
  split
  · rw [List.length_map]; omega
  · rw [List.length_append, List.length_cons, List.length_nil]; omega
theorem putK_new {kvs : List (κ × V)} {k : κ} (v : V) (h : valV kvs k = none) : putK kvs k v = kvs ++ [(k, v)] := by
  unfold putK
  rw [valV_any, h]
  exact if_neg (by decide)

theorem RelO.isSome_eq {o : Option V} {u : Option Value} (r : RelO o u) : o.isSome = u.isSome := by
  cases o with
  | none => cases u with
    | none => rfl
    | some _ => exact (show False from r).elim
  | some _ => cases u with
    | none => exact (show False from r).elim
    | some _ => rfl
theorem RelO.getD {o : Option V} {u : Option Value} {d : V} {d' : Value} (r : RelO o u) (rd : RelV d d') : RelV (o.getD d) (u.getD d') := by
  cases o with
  | none => cases u with
    | none => exact rd
    | some _ => exact (show False from r).elim
  | some _ => cases u with
    | none => exact (show False from r).elim
    | some _ => exact r

/-- raw tables of the same keys -/
theorem KV.val {kvs : List (κ × V)} {vs : List (κ × Value)} (r : KV kvs vs) (k : κ) : RelO (valV kvs k) (valueAt vs k) := by
  unfold KV at r
  induction r with
  | nil => exact True.intro
  | @cons p q ps qs h t ih =>
    obtain ⟨h1, h2⟩ := h
    by_cases e : p.1 = k
    · have e' : q.1 = k := h1.symm.trans e
      have b : valueAt (q :: qs) k = some q.2 := by simp [valueAt, List.find?_cons, e']
      rw [valV_pos e, b]; exact h2
    · have e' : ¬ q.1 = k := fun z => e (h1.trans z)
      have b : valueAt (q :: qs) k = valueAt qs k := by simp [valueAt, List.find?_cons, e']
      rw [valV_neg e, b]; exact ih
theorem KV.any {kvs : List (κ × V)} {vs : List (κ × Value)} (r : KV kvs vs) (k : κ) : (kvs.any fun kv => decide (kv.1 = k)) = vs.any fun kv => decide (kv.1 = k) := by
  unfold KV at r
  induction r with
  | nil => rfl
  | cons h t ih => rw [List.any_cons, List.any_cons, ih, h.1]
theorem KV.repl {kvs : List (κ × V)} {vs : List (κ × Value)} (r : KV kvs vs) (k : κ) {y : V} {u : Value} (ry : RelV y u) :
    KV (kvs.map fun kv => if kv.1 = k then (kv.1, y) else kv) (vs.map fun kv => if kv.1 = k then (kv.1, u) else kv) := by
  unfold KV at r ⊢
  induction r with
  | nil => exact .nil
  | @cons p q ps qs h t ih =>
    rw [List.map_cons, List.map_cons]
    refine .cons ?_ ih
    obtain ⟨h1, h2⟩ := h
    by_cases e : p.1 = k
    · rw [if_pos e, if_pos (h1.symm.trans e)]; exact ⟨h1, ry⟩
    · rw [if_neg e, if_neg (fun z => e (h1.trans z))]; exact ⟨h1, h2⟩
theorem KV.put {kvs : List (κ × V)} {vs : List (κ × Value)} (r : KV kvs vs) (k : κ) {y : V} {u : Value} (ry : RelV y u) : KV (putK kvs k y) (stored vs k u) := by
  unfold putK stored
  rw [r.any k]
  by_cases e : (vs.any fun kv => decide (kv.1 = k)) = true
  · rw [if_pos e, if_pos e]; exact r.repl k ry
  · rw [if_neg e, if_neg e]; exact Paired.snoc r ⟨rfl, ry⟩
theorem KV.drop {kvs : List (κ × V)} {vs : List (κ × Value)} (r : KV kvs vs) (k : κ) : KV (dropK kvs k) (without vs k) := by
  unfold KV at r ⊢
  unfold dropK without
  induction r with
  | nil => exact .nil
  | @cons p q ps qs h t ih =>
    obtain ⟨h1, h2⟩ := h
    rw [List.filter_cons, List.filter_cons]
    by_cases e : p.1 = k
    · have a : ¬ decide (p.1 ≠ k) = true := by simp [e]
      have b : ¬ decide (q.1 ≠ k) = true := by simp [h1.symm.trans e]
      rw [if_neg a, if_neg b]; exact ih
    · have e' : ¬ q.1 = k := fun z => e (h1.trans z)
      have a : decide (p.1 ≠ k) = true := by simp [e]
      have b : decide (q.1 ≠ k) = true := by simp [e']
      rw [if_pos a, if_pos b]; exact .cons ⟨h1, h2⟩ ih
theorem KV.keys {kvs : List (κ × V)} {vs : List (κ × Value)} (r : KV kvs vs) : kvs.map (·.1) = vs.map (·.1) := by
  unfold KV at r
  induction r with
  | nil => rfl
  | cons h t ih => rw [List.map_cons, List.map_cons, ih, h.1]
theorem KV.length {kvs : List (κ × V)} {vs : List (κ × Value)} (r : KV kvs vs) : kvs.length = vs.length := Paired.length r
theorem dropK_le (kvs : List (κ × V)) (k : κ) : (dropK kvs k).length ≤ kvs.length := List.length_filter_le _ _
end


/-! ### a tracked dict, its keys ints and texts or tuples of these -/
theorem kV_is {P : Program} {w : World} {k : Key} {u : Value} (r : RelV (kV k) u) : (mixKind P w).is k u = true := by
  cases k with
  | inl i => obtain ⟨t, e⟩ := (show ∃ t, u = Value.int i t from r); subst e; exact mixKind_int P w i t
  | inr x => obtain ⟨t, e⟩ := (show ∃ t, u = Value.str x t from r); subst e; exact mixKind_str P w x t
theorem kV_inj {a b : Key} (e : kV a = kV b) : a = b := by
  cases a with
  | inl i => cases b with
    | inl j => have e' : V.int i = V.int j := e; injection e' with e'; rw [e']
    | inr y => exact nomatch (show V.int i = V.str y from e)
  | inr x => cases b with
    | inl j => exact nomatch (show V.str x = V.int j from e)
    | inr y => have e' : V.str x = V.str y := e; injection e' with e'; rw [e']
theorem kVs_inj : ∀ {a b : List Key}, a.map kV = b.map kV → a = b
  | [], [], _ => rfl
  | [], _ :: _, e => by simp at e
  | _ :: _, [], e => by simp at e
  | x :: xs, y :: ys, e => by
    rw [List.map_cons, List.map_cons] at e
    injection e with e1 e2
    rw [kV_inj e1, kVs_inj e2]
theorem items_are {P : Program} {w : World} : ∀ {ks : List Key} {us : List Value}, Vals (ks.map kV) us → ItemsAre (mixKind P w) ks us
  | [], _, r => by rw [List.map_nil] at r; cases r; exact .nil
  | k :: ks, _, r => by
    rw [List.map_cons] at r
    cases r with
    | cons h t => exact .cons (kV_is h) (items_are t)

/-- raw entries of a dict with tuple keys -/
abbrev KT (H : Hp) : List (List Key × V) → List (List Key × Addr × Value) → Prop := Paired fun p q => p.1 = q.1 ∧ H q.2.1 = some (.tup (p.1.map kV)) ∧ RelV p.2 q.2.2
theorem KT.val {H : Hp} {kvs : List (List Key × V)} {xs : List (List Key × Addr × Value)} (r : KT H kvs xs) (k : List Key) : RelO (valV kvs k) ((atKey xs k).map (·.2)) := by
  induction r with
  | nil => exact True.intro
  | @cons p q ps qs h t ih =>
    obtain ⟨h1, _, h2⟩ := h
    by_cases e : p.1 = k
    · have e' : q.1 = k := h1.symm.trans e
      have b : atKey (q :: qs) k = some q.2 := by simp [atKey, List.find?_cons, e']
      rw [valV_pos e, b]; exact h2
    · have e' : ¬ q.1 = k := fun z => e (h1.trans z)
      have b : atKey (q :: qs) k = atKey qs k := by simp [atKey, List.find?_cons, e']
      rw [valV_neg e, b]; exact ih
theorem KT.repl {H : Hp} {kvs : List (List Key × V)} {xs : List (List Key × Addr × Value)} (r : KT H kvs xs) (k : List Key) {y : V} {u : Value} (ry : RelV y u) :
    KT H (kvs.map fun kv => if kv.1 = k then (kv.1, y) else kv) (xs.map (putAt k u)) := by
  induction r with
  | nil => exact .nil
  | @cons p q ps qs h t ih =>
    rw [List.map_cons, List.map_cons]
    refine .cons ?_ ih
    obtain ⟨h1, h2, h3⟩ := h
    unfold putAt
    by_cases e : p.1 = k
    · rw [if_pos e, if_pos (h1.symm.trans e)]; exact ⟨h1, h2, ry⟩
    · rw [if_neg e, if_neg (fun z => e (h1.trans z))]; exact ⟨h1, h2, h3⟩
theorem KT.put {H : Hp} {kvs : List (List Key × V)} {xs : List (List Key × Addr × Value)} (r : KT H kvs xs) (k : List Key) {b : Addr} {y : V} {u : Value} (hb : H b = some (.tup (k.map kV))) (ry : RelV y u) :
    KT H (putK kvs k y) (storedH xs k b u) := by
  have e : (kvs.any fun kv => decide (kv.1 = k)) = (atKey xs k).isSome := by
    rw [valV_any, (r.val k).isSome_eq, Option.isSome_map]
  unfold putK storedH
  rw [e]
  by_cases q : (atKey xs k).isSome = true
  · rw [if_pos q, if_pos q]; exact r.repl k ry
  · rw [if_neg q, if_neg q]; exact Paired.snoc r ⟨rfl, hb, ry⟩
theorem KT.keeps {H H' : Hp} {kvs : List (List Key × V)} {xs : List (List Key × Addr × Value)} (r : KT H kvs xs) (ht : ∀ b ys, H b = some (.tup ys) → H' b = some (.tup ys)) : KT H' kvs xs :=
  Paired.mapP r fun _ _ z => ⟨z.1, ht _ _ z.2.1, z.2.2⟩

section
variable {P : Program} {w : World} {H : Hp} {h : Heap} {a : Addr}
theorem rd_of {u : HO} (ok : HOk P w H h) (e : Rd H a u) : ObjOk P w H h a u := e.ok ok
theorem dk_rd {kvs : List (Key × V)} (ok : HOk P w H h) (e : Rd H a (.dK kvs)) : kvs.length ≤ sizeLine ∧ (a == sysModules) = false ∧ ∃ vs, KV kvs vs ∧ h.DictOf (mixKind P w) a vs :=
  show ObjOk P w H h a (.dK kvs) from rd_of ok e
theorem dk_of {kvs : List (Key × V)} (ok : HOk P w H h) (e : H a = some (.dK kvs)) : kvs.length ≤ sizeLine ∧ (a == sysModules) = false ∧ ∃ vs, KV kvs vs ∧ h.DictOf (mixKind P w) a vs := dk_rd ok (.inl e)
/-- a tracked tuple of ints and texts is a key -/
theorem key_of {ks : List Key} (ok : HOk P w H h) (e : H a = some (.tup (ks.map kV))) : (tupleKind (mixKind P w)).is h ks a := by
  obtain ⟨_, its, r, o, h1, h2, n, h3⟩ := (show ObjOk P w H h a (.tup (ks.map kV)) from ok a _ e)
  exact ⟨o, its.toArray, n, h1, h2, h3, by simpa using items_are r⟩
theorem dt_rd {kvs : List (List Key × V)} (ok : HOk P w H h) (e : Rd H a (.dT kvs)) : kvs.length ≤ sizeLine ∧ (a == sysModules) = false ∧
    ∃ xs, KT H kvs xs ∧ h.DictOfH (tupleKind (mixKind P w)) a xs := by
  obtain ⟨z, y, xs, r, o, es, ep, h1, h2, h3, h4, h5⟩ := (show ObjOk P w H h a (.dT kvs) from rd_of ok e)
  refine ⟨z, y, xs, r, o, es, ep, h1, h2, h3, h4, fun x hx => ?_, h5⟩
  have all : ∀ {l : List (List Key × V)} {m : List (List Key × Addr × Value)}, KT H l m → ∀ x ∈ m, (tupleKind (mixKind P w)).is h x.1 x.2.1 := by
    intro l m q
    induction q with
    | nil => intro x hx; exact nomatch hx
    | @cons p q ps qs hq t ih =>
      intro x hx
      rcases List.mem_cons.mp hx with e | hx
      · subst e
        exact key_of ok (by rw [← hq.1]; exact hq.2.1)
      · exact ih x hx
  exact all r x hx
theorem dt_of {kvs : List (List Key × V)} (ok : HOk P w H h) (e : H a = some (.dT kvs)) : kvs.length ≤ sizeLine ∧ (a == sysModules) = false ∧
    ∃ xs, KT H kvs xs ∧ h.DictOfH (tupleKind (mixKind P w)) a xs := dt_rd ok (.inl e)
end

/-- what the dict at a holds at the key y -/
def DGet (H : Hp) (a : Addr) (y : V) (r : Option V) : Prop :=
  (∃ kvs k, Rd H a (.dK kvs) ∧ y = kV k ∧ r = valV kvs k) ∨ ∃ kvs k b, Rd H a (.dT kvs) ∧ y = .ref b ∧ H b = some (.tup (k.map kV)) ∧ r = valV kvs k
/-- the heap behind a[y] = v -/
def DPut (H : Hp) (a : Addr) (y v : V) (H' : Hp) : Prop :=
  (∃ kvs k, H a = some (.dK kvs) ∧ y = kV k ∧ kvs.length < sizeLine ∧ H' = upd H a (.dK (putK kvs k v))) ∨
  ∃ kvs k b, H a = some (.dT kvs) ∧ y = .ref b ∧ H b = some (.tup (k.map kV)) ∧ kvs.length < sizeLine ∧ H' = upd H a (.dT (putK kvs k v))
theorem DGet.k {H : Hp} {a : Addr} {kvs : List (Key × V)} {k : Key} (e : H a = some (.dK kvs)) : DGet H a (kV k) (valV kvs k) := .inl ⟨kvs, k, .inl e, rfl, rfl⟩
theorem DGet.t {H : Hp} {a b : Addr} {kvs : List (List Key × V)} {k : List Key} (e : H a = some (.dT kvs)) (eb : H b = some (.tup (k.map kV))) : DGet H a (.ref b) (valV kvs k) := .inr ⟨kvs, k, b, .inl e, rfl, eb, rfl⟩
theorem DPut.k {H : Hp} {a : Addr} {kvs : List (Key × V)} {k : Key} {v : V} (e : H a = some (.dK kvs)) (hl : kvs.length < sizeLine) : DPut H a (kV k) v (upd H a (.dK (putK kvs k v))) := .inl ⟨kvs, k, e, rfl, hl, rfl⟩
theorem DPut.t {H : Hp} {a b : Addr} {kvs : List (List Key × V)} {k : List Key} {v : V} (e : H a = some (.dT kvs)) (eb : H b = some (.tup (k.map kV))) (hl : kvs.length < sizeLine) :
    DPut H a (.ref b) v (upd H a (.dT (putK kvs k v))) := .inr ⟨kvs, k, b, e, rfl, eb, hl, rfl⟩


section
variable {X : Cx} {pins : List (Addr × Obj)} {σ : St} {H : Hp} {s : Shared} {a : Addr} {y v : V} {u r : Value} {o : Option V} {A : Around} {E : Value → Shared → Prop}

theorem Inv.big (I : Inv X pins σ H s) : sysModules < s.heap.objs.size := by
  have h : mainGlobals < s.heap.objs.size := (I.mod.glob.keeps I.bk).lt
  exact Nat.lt_trans (by decide) h

/-- d[y], there -/
theorem d_getItem {Q : Value → Shared → Prop} (hu : A.units + 1 < cLine) (I : Inv X pins σ H s) (g : DGet H a y (some v)) (ry : RelV y u) (h : ∀ w' s', Inv X pins σ H s' → RelV v w' → Q w' s') :
    wpAny (model X.prog X.w) A (getItem (.ref a) u) Q E s := by
  rcases g with ⟨kvs, k, e, ey, l⟩ | ⟨kvs, k, b, e, ey, eb, l⟩
  · subst ey
    obtain ⟨z, hd, vs, rel, dd⟩ := dk_rd I.hok e
    obtain ⟨w', hw, rw'⟩ := RelO.some_of (v := v) (o := valueAt vs k) (by rw [l]; exact rel.val k)
    exact wpAny_getItem_of (kV_is ry) dd.mapOf hw (h w' _ (I.tok _) rw')
  · subst ey
    cases (show u = Value.ref b from ry)
    obtain ⟨z, hd, xs, rel, dd⟩ := dt_rd I.hok e
    obtain ⟨w', hw, rw'⟩ := RelO.some_of (v := v) (o := (atKey xs k).map (·.2)) (by rw [l]; exact rel.val k)
    obtain ⟨p, hp, hp2⟩ := Option.map_eq_some_iff.mp hw
    refine wpAny_getItem_heap (tupleKind_room_in1 hu) (key_of I.hok eb) dd hp ?_
    rw [hp2]
    exact h w' _ (I.tok _) rw'
/-- y in d -/
theorem d_in {Q : Value → Shared → Prop} (hu : A.units + 1 < cLine) (I : Inv X pins σ H s) (g : DGet H a y o) (ry : RelV y u) (h : ∀ s', Inv X pins σ H s' → Q (.bool o.isSome) s') :
    wpAny (model X.prog X.w) A (compareOp .In u (.ref a)) Q E s := by
  rcases g with ⟨kvs, k, e, ey, l⟩ | ⟨kvs, k, b, e, ey, eb, l⟩
  · subst ey
    obtain ⟨z, hd, vs, rel, dd⟩ := dk_rd I.hok e
    refine wpAny_in_of (kV_is ry) hd dd.mapOf ?_
    rw [← (rel.val k).isSome_eq, ← l]
    exact h _ (I.tok _)
  · subst ey
    cases (show u = Value.ref b from ry)
    obtain ⟨z, hd, xs, rel, dd⟩ := dt_rd I.hok e
    refine wpAny_in_heap (tupleKind_room_in1 hu) (key_of I.hok eb) hd dd ?_
    have q := (rel.val k).isSome_eq
    rw [Option.isSome_map] at q
    rw [← q, ← l]
    exact h _ (I.tok _)
theorem d_notIn {Q : Value → Shared → Prop} (hu : A.units + 1 < cLine) (I : Inv X pins σ H s) (g : DGet H a y o) (ry : RelV y u) (h : ∀ s', Inv X pins σ H s' → Q (.bool (!o.isSome)) s') :
    wpAny (model X.prog X.w) A (compareOp .NotIn u (.ref a)) Q E s := by
  rcases g with ⟨kvs, k, e, ey, l⟩ | ⟨kvs, k, b, e, ey, eb, l⟩
  · subst ey
    obtain ⟨z, hd, vs, rel, dd⟩ := dk_rd I.hok e
    refine wpAny_notIn_of (kV_is ry) hd dd.mapOf ?_
    rw [← (rel.val k).isSome_eq, ← l]
    exact h _ (I.tok _)
  · subst ey
    cases (show u = Value.ref b from ry)
    obtain ⟨z, hd, xs, rel, dd⟩ := dt_rd I.hok e
    refine wpAny_notIn_heap (tupleKind_room_in1 hu) (key_of I.hok eb) hd dd ?_
    have q := (rel.val k).isSome_eq
    rw [Option.isSome_map] at q
    rw [← q, ← l]
    exact h _ (I.tok _)
/-- a dict's object is replaced -/
theorem d_write {h' : Heap} {t' : Nat} {ob : HO} (I : Inv X pins σ H s) (mu : Mut (H a)) (hs : Heap.SameBut a s.heap h') (he : ∃ q, h'.get? a = some q) (new : ObjOk X.prog X.w (upd H a ob) h' a ob) :
    Inv X pins σ (upd H a ob) { s with heap := h', toks := t' } :=
  I.write (x := a) (e := a) mu (.inl rfl) (fun b q hb z => (hs.2 b hb).trans z) he new
theorem dk_new {P : Program} {w : World} {H' : Hp} {h' : Heap} {kvs : List (Key × V)} {vs : List (Key × Value)} (z : kvs.length ≤ sizeLine) (hd : (a == sysModules) = false) (rel : KV kvs vs) (dd : h'.DictOf (mixKind P w) a vs) :
    ObjOk P w H' h' a (.dK kvs) := ⟨z, hd, vs, rel, dd⟩
/-- d[y] = v -/
theorem d_setItem {H' : Hp} {Q : Unit → Shared → Prop} (hu : A.units + 1 < cLine) (I : Inv X pins σ H s) (g : DPut H a y v H') (ry : RelV y u) (rv : RelV v r) (h : ∀ s', Inv X pins σ H' s' → Q () s') :
    wpAny (model X.prog X.w) A (setItem (.ref a) u r) Q E s := by
  rcases g with ⟨kvs, k, e, ey, l, eH⟩ | ⟨kvs, k, b, e, ey, eb, l, eH⟩
  · subst ey eH
    obtain ⟨z, hd, vs, rel, dd⟩ := dk_of I.hok e
    have hz : vs.length ≤ sizeLine := by rw [← rel.length]; exact z
    have hl : (putK kvs k v).length ≤ sizeLine := by have := length_putK kvs k v; omega
    refine wpAny_setItem_pairs (hsz := hz) (kV_is ry) dd fun h' dd' hs => h _ ?_
    have he : ∃ q, h'.get? a = some q := let ⟨q, _, _, hq, _⟩ := dd'; ⟨q, hq⟩
    exact d_write I (by rw [e]; exact True.intro) hs he (dk_new hl hd (rel.put k rv) dd')
  · subst ey eH
    cases (show u = Value.ref b from ry)
    obtain ⟨z, hd, xs, rel, dd⟩ := dt_of I.hok e
    have hz : xs.length ≤ sizeLine := by rw [← Paired.length rel]; exact z
    have hl : (putK kvs k v).length ≤ sizeLine := by have := length_putK kvs k v; omega
    refine wpAny_setItem_heap (hsz := hz) (tupleKind_room_in1 hu) (key_of I.hok eb) dd fun h' dd' hs => h _ ?_
    obtain ⟨q, es, ep, hq, h2, h3, h4, _, h5⟩ := dd'
    refine d_write I (by rw [e]; exact True.intro) hs ⟨q, hq⟩ ⟨hl, hd, _, (rel.put k eb rv).keeps fun c ys ec => ?_, q, es, ep, hq, h2, h3, h4, h5⟩
    rw [upd_ne (ne_of ec e (fun z => nomatch z))]
    exact ec
end

section
variable {X : Cx} {pins : List (Addr × Obj)} {σ : St} {H : Hp} {s : Shared} {a : Addr} {kvs : List (Key × V)} {k : Key} {u : Value} {A : Around} {E : Value → Shared → Prop}
/-- del d[k] -/
theorem d_delItem {Q : Unit → Shared → Prop} (I : Inv X pins σ H s) (e : H a = some (.dK kvs)) (ry : RelV (kV k) u) (l : (valV kvs k).isSome = true) (h : ∀ s', Inv X pins σ (upd H a (.dK (dropK kvs k))) s' → Q () s') :
    wpAny (model X.prog X.w) A (delItem (.ref a) u) Q E s := by
  obtain ⟨z, hd, vs, rel, dd⟩ := dk_of I.hok e
  refine wpAny_delItem_slot dd.typeIs (by decide) PySem.F.slot_dict_delitem
    (call_meetsIn PySem.F.slot_dict_delitem dd.typeIs PySem.F.entry_dict_delitem (PySem.F.args_dict_delitem_2 _ _) (meets_dict_delitem_pairs (mixKind X.prog X.w) a (kV_is ry)) ⟨vs, dd, by rw [← rel.length]; exact z, by rw [← (rel.val k).isSome_eq]; exact l, fun h' dd' hs => h _ ?_⟩)
  have he : ∃ q, h'.get? a = some q := let ⟨q, _, _, hq, _⟩ := dd'; ⟨q, hq⟩
  exact d_write I (by rw [e]; exact True.intro) hs he (dk_new (Nat.le_trans (dropK_le kvs k) z) hd (rel.drop k) dd')
/-- d.pop(k[, x]), there -/
theorem d_pop {v : V} {more : List Value} {Q : Value → Shared → Prop} (I : Inv X pins σ H s) (e : H a = some (.dK kvs)) (ry : RelV (kV k) u) (l : valV kvs k = some v) (hm : more = [] ∨ ∃ x, more = [x])
    (h : ∀ w' s', Inv X pins σ (upd H a (.dK (dropK kvs k))) s' → RelV v w' → Q w' s') : wpAny (model X.prog X.w) A (call (.builtin "dict.pop") (.ref a :: u :: more)) Q E s := by
  obtain ⟨z, hd, vs, rel, dd⟩ := dk_of I.hok e
  obtain ⟨w', hw, rw'⟩ := RelO.some_of (v := v) (o := valueAt vs k) (by rw [← l]; exact rel.val k)
  have hp : (keyPart u).isSome = true := by
    cases k with
    | inl i => obtain ⟨t, q⟩ := (show ∃ t, u = Value.int i t from ry); subst q; rfl
    | inr x => obtain ⟨t, q⟩ := (show ∃ t, u = Value.str x t from ry); subst q; rfl
  have ha : argsOk "dict.pop" ⟨.ref a :: u :: more, []⟩ := by
    rcases hm with q | ⟨x, q⟩
    · subst q; exact PySem.F.args_dict_pop_2 _ _
    · subst q; exact PySem.F.args_dict_pop_3 _ _ _
  refine call_meetsIn PySem.F.slot_dict_pop dd.typeIs PySem.F.entry_dict_pop ha (meets_dict_pop_there (mixKind X.prog X.w) a (kV_is ry) more hm hp)
    ⟨vs, w', dd, by rw [← rel.length]; exact z, hw, fun h' dd' hs => h w' _ ?_ rw'⟩
  have he : ∃ q, h'.get? a = some q := let ⟨q, _, _, hq, _⟩ := dd'; ⟨q, hq⟩
  exact d_write I (by rw [e]; exact True.intro) hs he (dk_new (Nat.le_trans (dropK_le kvs k) z) hd (rel.drop k) dd')
/-- d.pop(k, x), not there -/
theorem d_popD {r : Value} {Q : Value → Shared → Prop} (I : Inv X pins σ H s) (e : H a = some (.dK kvs)) (ry : RelV (kV k) u) (l : valV kvs k = none) (h : ∀ s', Inv X pins σ H s' → Q r s') :
    wpAny (model X.prog X.w) A (call (.builtin "dict.pop") [.ref a, u, r]) Q E s := by
  obtain ⟨z, hd, vs, rel, dd⟩ := dk_of I.hok e
  have hn : valueAt vs k = none := RelO.none_of (by rw [← l]; exact rel.val k)
  have hp : (keyPart u).isSome = true := by
    cases k with
    | inl i => obtain ⟨t, q⟩ := (show ∃ t, u = Value.int i t from ry); subst q; rfl
    | inr x => obtain ⟨t, q⟩ := (show ∃ t, u = Value.str x t from ry); subst q; rfl
  exact call_meetsIn PySem.F.slot_dict_pop dd.typeIs PySem.F.entry_dict_pop (PySem.F.args_dict_pop_3 _ _ _) (meets_dict_pop_default (mixKind X.prog X.w) a (kV_is ry) hd hp r) ⟨vs, dd, hn, h _ (I.tok _)⟩
/-- d.clear() -/
theorem d_clear {Q : Value → Shared → Prop} (I : Inv X pins σ H s) (e : H a = some (.dK kvs)) (h : ∀ s', Inv X pins σ (upd H a (.dK [])) s' → Q .none s') : wpAny (model X.prog X.w) A (call (.builtin "dict.clear") [.ref a]) Q E s := by
  obtain ⟨z, hd, vs, rel, dd⟩ := dk_of I.hok e
  refine call_meetsIn PySem.F.slot_dict_clear dd.typeIs PySem.F.entry_dict_clear (PySem.F.args_dict_clear_1 _) (meets_dict_clear (mixKind X.prog X.w) a) ⟨vs, dd, by rw [← rel.length]; exact z, fun h' dd' hs => h _ ?_⟩
  have he : ∃ q, h'.get? a = some q := let ⟨q, _, _, hq, _⟩ := dd'; ⟨q, hq⟩
  exact d_write (t' := s.toks) I (by rw [e]; exact True.intro) hs he (dk_new (Nat.zero_le _) hd .nil dd')
/-- len(d) -/
theorem d_len {Q : Value → Shared → Prop} (I : Inv X pins σ H s) (e : Rd H a (.dK kvs)) (h : ∀ t s', Inv X pins σ H s' → Q (.int kvs.length t) s') : wpAny (model X.prog X.w) A (call (.builtin "len") [.ref a]) Q E s := by
  obtain ⟨z, hd, vs, rel, dd⟩ := dk_rd I.hok e
  refine call_len_dict hd dd (by rw [← rel.length]; rw [sizeLine_eq] at z; omega) ?_
  rw [← rel.length]
  exact h _ _ (I.tok _)
/-- if d -/
theorem d_truth {Q : Bool → Shared → Prop} (I : Inv X pins σ H s) (e : Rd H a (.dK kvs)) (h : ∀ s', Inv X pins σ H s' → Q (!kvs.isEmpty) s') : wpAny (model X.prog X.w) A (truthy (.ref a)) Q E s := by
  obtain ⟨z, hd, vs, rel, dd⟩ := dk_rd I.hok e
  refine wpAny_truthy_dict hd dd (by rw [← rel.length]; rw [sizeLine_eq] at z; omega) ?_
  have q : kvs.isEmpty = vs.isEmpty := by cases rel <;> rfl
  rw [← q]
  exact h _ (I.tok _)
end


/-! ### readings and rules -/
/-- the element of a subscription, not a slice -/
def NoSl (i : Expr) : Prop := ∀ ov iv, subscripted i false ov iv = operate [ov, iv] (getItem ov iv)
theorem subD_of {prog : Program} {w : World} {A : Around} {E : Value → Shared → Prop} {s : Shared} {env : Env} {value slice : Expr} {pos : Pos} {T id : String} {Q : Value → Shared → Prop}
    (hl : typeLookup (.type T) "__getitem__" = pure (some (.builtin id))) (hs : NoSl slice)
    (h : wpAny (model prog w) A (eval value env) (fun o s₁ => wpAny (model prog w) A (eval slice env) (fun i s₂ => s₂.TypeIs o T ∧ wpAny (model prog w) A (getItem o i) Q E s₂) E s₁) E s) :
    wpAny (model prog w) A (eval (.Subscript value slice pos) env) Q E s := by
  refine Subscript_ (wpAny_mono h (fun o s₁ h₁ => wpAny_mono h₁ (fun i s₂ h₂ => ?_) fun _ _ x => x) fun _ _ x => x)
  obtain ⟨hT, h₂⟩ := h₂
  unfold subscriptTail
  refine wpAny_bind ?_
  rw [getitemInPython_of_ne hT.not_modules]
  refine wpAny_bind (wpAny_specialOf hT hl ?_)
  have fin : wpAny (model prog w) A (subscripted slice false o i) (fun r s₃ => wpAny (model prog w) A (letTemporaryGo value o r >>= fun _ => pure r) Q E s₃) E s₂ := by
    rw [hs o i]
    exact wpAny_operating (wpAny_mono h₂ (fun r s₃ h₃ => wpAny_bind (wpAny_letTemporaryGo (wpAny_pure h₃))) fun _ _ x => x)
  first
    | exact wpAny_pure (wpAny_bind fin)
    | exact wpAny_bind (wpAny_pure (wpAny_bind fin))
    | exact wpAny_bind fin

theorem dict_typeIs {X : Cx} {pins : List (Addr × Obj)} {σ : St} {H : Hp} {s : Shared} {a : Addr} {y : V} {o : Option V} (I : Inv X pins σ H s) (g : DGet H a y o) : s.TypeIs (.ref a) "dict" := by
  rcases g with ⟨kvs, k, e, _, _⟩ | ⟨kvs, k, b, e, _, _, _⟩
  · obtain ⟨_, _, vs, _, dd⟩ := dk_rd I.hok e
    exact dd.typeIs
  · obtain ⟨_, _, xs, _, dd⟩ := dt_rd I.hok e
    exact dd.typeIs
theorem dict_noDict {X : Cx} {pins : List (Addr × Obj)} {σ : St} {H : Hp} {s : Shared} {a : Addr} {y : V} {o : Option V} (I : Inv X pins σ H s) (g : DGet H a y o) :
    ∀ b, Value.ref a = .ref b → ∃ ob, s.heap.get? b = some ob ∧ ob.dict = none := fun b q => by
  cases q
  rcases g with ⟨kvs, k, e, _, _⟩ | ⟨kvs, k, b, e, _, _, _⟩
  · obtain ⟨_, _, vs, _, ob, _, _, h1, h2, _⟩ := dk_rd I.hok e
    exact ⟨ob, h1, h2.2.1⟩
  · obtain ⟨_, _, xs, _, ob, _, _, h1, h2, _⟩ := dt_rd I.hok e
    exact ⟨ob, h1, h2.2.1⟩

/-- d[y] -/
def tDGet (td ty : TE) : TE := fun σ H Q => td σ H fun x H1 => ty σ H1 fun y H2 => ∃ a v, x = .ref a ∧ DGet H2 a y (some v) ∧ Q v H2
/-- y in d, y not in d -/
def tDIn (ty td : TE) : TE := fun σ H Q => ty σ H fun y H1 => td σ H1 fun x H2 => ∃ a o, x = .ref a ∧ DGet H2 a y o ∧ Q (.bl o.isSome) H2
def tDNotIn (ty td : TE) : TE := fun σ H Q => ty σ H fun y H1 => td σ H1 fun x H2 => ∃ a o, x = .ref a ∧ DGet H2 a y o ∧ Q (.bl (!o.isSome)) H2
/-- d[y] = v -/
def sDPut (td ty tv : TE) : TS := fun D σ H => tv σ H fun v H1 => td σ H1 fun x H2 => ty σ H2 fun y H3 => ∃ a H4, x = .ref a ∧ DPut H3 a y v H4 ∧ D.nx σ H4
/-- d[y] op= v -/
def sDAug (td ty tv : TE) (rd : V → V → Hp → VK → Prop) : TS := fun D σ H => td σ H fun x H1 => ty σ H1 fun y H2 => ∃ a v, x = .ref a ∧ DGet H2 a y (some v) ∧
  tv σ H2 fun y2 H3 => rd v y2 H3 fun z H4 => ∃ H5, DPut H4 a y z H5 ∧ D.nx σ H5
/-- del d[y] -/
def sDDel (td ty : TE) : TS := fun D σ H => td σ H fun x H1 => ty σ H1 fun y H2 => ∃ a kvs k, x = .ref a ∧ H2 a = some (.dK kvs) ∧ y = kV k ∧ (valV kvs k).isSome = true ∧ D.nx σ (upd H2 a (.dK (dropK kvs k)))

section
variable {X : Cx} {o i e value : Expr} {pos pos' tpos : Pos} {td ty tv : TE}
theorem pe_dget (hu : X.A.units + 1 < cLine) (ho : PE X o td) (hi : PE X i ty) (hs : NoSl i) : PE X (.Subscript o i pos) (tDGet td ty) := by
  intro pins s σ H Q I h
  refine subD_of PySem.F.slot_dict_getitem.lookup hs (thn (ho pins s σ H _ I h) fun u s1 ⟨x, H1, I1, rx, q1⟩ => thn (hi pins s1 σ H1 _ I1 q1) fun iv s2 ⟨y, H2, I2, ry, a, v, ex, g, q2⟩ => ?_)
  subst ex
  obtain rfl : u = Value.ref a := rx
  exact ⟨dict_typeIs I2 g, d_getItem hu I2 g ry fun w' s3 I3 rw' => ⟨v, H2, I3, rw', q2⟩⟩
theorem pc_din (hu : X.A.units + 1 < cLine) (hi : PE X i ty) (ho : PE X o td) : PC X .In i o (tDIn ty td) := by
  intro pins s σ H Q I h
  refine thn (hi pins s σ H _ I h) fun iv s1 ⟨y, H1, I1, ry, q1⟩ => thn (ho pins s1 σ H1 _ I1 q1) fun u s2 ⟨x, H2, I2, rx, a, ov, ex, g, q2⟩ => ?_
  subst ex
  obtain rfl : u = Value.ref a := rx
  exact d_in hu I2 g ry fun s3 I3 => ⟨.bl ov.isSome, H2, I3, rfl, q2⟩
theorem pc_dnotin (hu : X.A.units + 1 < cLine) (hi : PE X i ty) (ho : PE X o td) : PC X .NotIn i o (tDNotIn ty td) := by
  intro pins s σ H Q I h
  refine thn (hi pins s σ H _ I h) fun iv s1 ⟨y, H1, I1, ry, q1⟩ => thn (ho pins s1 σ H1 _ I1 q1) fun u s2 ⟨x, H2, I2, rx, a, ov, ex, g, q2⟩ => ?_
  subst ex
  obtain rfl : u = Value.ref a := rx
  exact d_notIn hu I2 g ry fun s3 I3 => ⟨.bl (!ov.isSome), H2, I3, rfl, q2⟩
theorem ps_dput (hu : X.A.units + 1 < cLine) (ho : PE X o td) (hi : PE X i ty) (hv : PE X value tv) (hs : swapsWith value (some (.Subscript o i pos')) pos.line X.env = pure false) :
    PS X (.Assign [.Subscript o i pos'] value pos) (sDPut td ty tv) := by
  intro pins s σ H D I h
  refine wpAny_Assign_Subscript (thn (hv pins s σ H _ I h) fun r s1 ⟨v, H1, I1, rv, q1⟩ => thn (ho pins s1 σ H1 _ I1 q1) fun u s2 ⟨x, H2, I2, rx, q2⟩ => thn (hi pins s2 σ H2 _ I2 q2) fun iv s3 ⟨y, H3, I3, ry, a, H4, ex, g, q3⟩ => ?_) hs
  subst ex
  obtain rfl : u = Value.ref a := rx
  exact d_setItem hu I3 g ry rv fun s4 I4 => ⟨σ, H4, I4, q3⟩
theorem ps_daug {op : Operator} {rd : V → V → Hp → VK → Prop} (hu : X.A.units + 1 < cLine) (ho : PE X o td) (hi : PE X i ty) (hv : PE X value tv) (hop : InOp X op rd)
    (ha : ∀ ov iv new, augStore i ov iv new = (do holding [new, ov, iv] (setItem ov iv new); release [new, ov, iv] []; pure .next)) : PS X (.AugAssign (.Subscript o i tpos) op value pos) (sDAug td ty tv rd) := by
  intro pins s σ H D I h
  refine wpAny_AugAssign_SubscriptAny (thn (ho pins s σ H _ I h) fun u s1 ⟨x, H1, I1, rx, q1⟩ => thn (hi pins s1 σ H1 _ I1 q1) fun iv s2 ⟨y, H2, I2, ry, a, v, ex, g, q2⟩ => ?_) ha
  subst ex
  obtain rfl : u = Value.ref a := rx
  refine d_getItem hu I2 g ry fun w' s3 I3 rw' => thn (hv pins s3 σ H2 _ I3 q2) fun w2 s4 ⟨y2, H3, I4, ry2, q3⟩ => thn (hop pins s4 σ H3 v y2 w' w2 _ I4 rw' ry2 q3) fun w3 s5 ⟨z, H4, I5, rz, H5, g5, q4⟩ => ?_
  exact d_setItem hu I5 g5 ry rz fun s6 I6 => ⟨σ, H5, I6, q4⟩
theorem ps_ddel (ho : PE X o td) (hi : PE X i ty) : PS X (.Delete [.Subscript o i tpos] pos) (sDDel td ty) := by
  intro pins s σ H D I h
  refine wpAny_Delete (wpAny_deleteEach_cons (wpAny_delete_Subscript (thn (ho pins s σ H _ I h) fun u s1 ⟨x, H1, I1, rx, q1⟩ => thn (hi pins s1 σ H1 _ I1 q1) fun iv s2 ⟨y, H2, I2, ry, a, kvs, k, ex, e, ey, l, q2⟩ => ?_)))
  subst ex ey
  obtain rfl : u = Value.ref a := rx
  exact d_delItem I2 e ry l fun s3 I3 => wpAny_deleteEach_nil ⟨σ, _, I3, q2⟩
end


/-! ### displays -/
theorem dk_empty {P : Program} {w : World} {H : Hp} (h : Heap) (hb : sysModules < h.objs.size) : ObjOk P w H (h.push { cls := .type "dict", data := .dict #[] }) h.objs.size (.dK []) :=
  ⟨Nat.zero_le _, beq_eq_false_iff_ne.mpr (Ne.symm (Nat.ne_of_lt hb)), [], .nil, Heap.DictOf.new h⟩
theorem dt_empty {P : Program} {w : World} {H : Hp} (h : Heap) (hb : sysModules < h.objs.size) : ObjOk P w H (h.push { cls := .type "dict", data := .dict #[] }) h.objs.size (.dT []) :=
  ⟨Nat.zero_le _, beq_eq_false_iff_ne.mpr (Ne.symm (Nat.ne_of_lt hb)), [], .nil, _, #[], 0, Heap.get?_push_size _ rfl, ⟨rfl, rfl, rfl⟩, rfl, rfl, List.nodup_nil⟩
/-- {}, to be a dict of the kind that is wanted -/
def tDNewK : TE := fun _ H Q => ∀ p, H p = none → Q (.ref p) (upd H p (.dK []))
def tDNewT : TE := fun _ H Q => ∀ p, H p = none → Q (.ref p) (upd H p (.dT []))
section
variable {X : Cx} {pos : Pos}
theorem pe_dnewK : PE X (.Dict [] [] pos) tDNewK := fun pins s σ H Q I h =>
  wpAny_Dict_empty ⟨.ref s.heap.objs.size, _, I.laid (a := s.heap.objs.size) (o := .dK []) (t' := s.toks) (fun _ _ q => Heap.get?_push_of_some _ q) (Nat.le_refl _) (dk_empty s.heap I.big), rfl, h _ (I.hok.fresh (Nat.le_refl _))⟩
theorem pe_dnewT : PE X (.Dict [] [] pos) tDNewT := fun pins s σ H Q I h =>
  wpAny_Dict_empty ⟨.ref s.heap.objs.size, _, I.laid (a := s.heap.objs.size) (o := .dT []) (t' := s.toks) (fun _ _ q => Heap.get?_push_of_some _ q) (Nat.le_refl _) (dt_empty s.heap I.big), rfl, h _ (I.hok.fresh (Nat.le_refl _))⟩
end

/-- the pairs of a display, from the left -/
def tPairs : List (TE × TE) → St → Hp → (List (V × V) → Hp → Prop) → Prop
  | [], _, H, Q => Q [] H
  | (tk, tv) :: r, σ, H, Q => tk σ H fun x H1 => tv σ H1 fun y H2 => tPairs r σ H2 fun ps H3 => Q ((x, y) :: ps) H3
abbrev VV : List (V × V) → List (Value × Value) → Prop := Paired fun p q => RelV p.1 q.1 ∧ RelV p.2 q.2
def PPs (X : Cx) (pos : Pos) (keys : List (Option Expr)) (values : List Expr) (trs : List (TE × TE)) : Prop :=
  ∀ (pins : List (Addr × Obj)) (s : Shared) (σ : St) (H : Hp) (Q : List (V × V) → Hp → Prop), Inv X pins σ H s → tPairs trs σ H Q →
    wpAny (model X.prog X.w) X.A (evalPairs (pairTrees keys values X.env pos)) (fun vs s' => ∃ ps H', Inv X pins σ H' s' ∧ VV ps vs ∧ Q ps H') X.xe s
theorem pps_nil {X : Cx} {pos : Pos} : PPs X pos [] [] [] := fun pins s σ H Q I h => pairTrees_nil_walk ⟨[], H, I, .nil, h⟩
theorem pps_cons {X : Cx} {pos : Pos} {k v : Expr} {ks : List (Option Expr)} {vs : List Expr} {tk tv : TE} {trs : List (TE × TE)} (hk : PE X k tk) (hv : PE X v tv) (hr : PPs X pos ks vs trs) :
    PPs X pos (some k :: ks) (v :: vs) ((tk, tv) :: trs) := fun pins s σ H Q I h =>
  pairTrees_cons_walk (thn (hk pins s σ H _ I h) fun u s1 ⟨x, H1, I1, rx, q1⟩ => thn (hv pins s1 σ H1 _ I1 q1) fun w2 s2 ⟨y, H2, I2, ry, q2⟩ =>
    thn (hr pins s2 σ H2 _ I2 q2) fun ws s3 ⟨ps, H3, I3, rel, q3⟩ => ⟨(x, y) :: ps, H3, I3, .cons ⟨rx, ry⟩ rel, q3⟩)

def mergeK (kvs more : List (Key × V)) : List (Key × V) := more.foldl (fun acc kv => putK acc kv.1 kv.2) kvs
theorem KV.merge : ∀ {more : List (Key × V)} {rs : List (Key × Value)} {kvs : List (Key × V)} {vs : List (Key × Value)}, KV more rs → KV kvs vs → KV (mergeK kvs more) (merged vs rs) := by
  intro more rs kvs vs r
  unfold KV at r
  induction r generalizing kvs vs with
  | nil => intro q; exact q
  | @cons p q ps qs h t ih =>
    intro r0
    have e : KV (putK kvs p.1 p.2) (stored vs q.1 q.2) := by
      have := r0.put p.1 h.2
      rw [← h.1]; exact this
    exact ih e
theorem length_mergeK : ∀ (more kvs : List (Key × V)), (mergeK kvs more).length ≤ kvs.length + more.length
  | [], kvs => by show kvs.length ≤ kvs.length + 0; omega
  | p :: r, kvs => by
    have h1 := length_mergeK r (putK kvs p.1 p.2)
    have h2 := length_putK kvs p.1 p.2
    show (mergeK (putK kvs p.1 p.2) r).length ≤ _
    rw [List.length_cons]; omega
theorem carries_of {P : Program} {w : World} : ∀ {kvs : List (Key × V)} {ws : List (Value × Value)}, VV (kvs.map fun kv => (kV kv.1, kv.2)) ws → ∃ rs, Carries (mixKind P w) ws rs ∧ KV kvs rs
  | [], _, r => by rw [List.map_nil] at r; cases r; exact ⟨[], True.intro, .nil⟩
  | p :: kvs, _, r => by
    rw [List.map_cons] at r
    cases r with
    | @cons a b as bs h t =>
      obtain ⟨rs, c, q⟩ := carries_of (P := P) (w := w) t
      obtain ⟨b1, b2⟩ := b
      exact ⟨(p.1, b2) :: rs, ⟨kV_is h.1, rfl, c⟩, .cons ⟨rfl, h.2⟩ q⟩
/-- {k: v, ..} with keys ints and texts; the new dict stands empty while the pairs are made -/
def tDisp (trs : List (TE × TE)) : TE := fun σ H Q => ∀ p, H p = none → tPairs trs σ (upd H p (.dK [])) fun ps H2 => H2 p = some (.dK []) ∧ ∃ kvs : List (Key × V), ps = kvs.map (fun kv => (kV kv.1, kv.2)) ∧ kvs.length ≤ 15 ∧ Q (.ref p) (upd H2 p (.dK (mergeK [] kvs)))
theorem pe_disp {X : Cx} {pos : Pos} {keys : List (Option Expr)} {values : List Expr} {trs : List (TE × TE)} (h : PPs X pos keys values trs) (hall : keys.all (·.isSome) = true) (hl : keys.length = values.length) (h0 : keys ≠ [])
    (h15 : keys.length ≤ 15) : PE X (.Dict keys values pos) (tDisp trs) := by
  intro pins s σ H Q I q
  have hn := I.hok.fresh (Nat.le_refl s.heap.objs.size)
  have I1 := I.laid (a := s.heap.objs.size) (o := .dK []) (h' := s.heap.push { cls := .type "dict", data := .dict #[] }) (t' := s.toks) (fun _ _ q => Heap.get?_push_of_some _ q) (Nat.le_refl _) (dk_empty s.heap I.big)
  refine wpAny_Dict_walk (knd := mixKind X.prog X.w) hall hl h0 h15 (thn (h pins _ σ _ _ I1 (q _ hn)) fun ws s2 ⟨ps, H2, I2, rel, e, kvs, ep, lk, q2⟩ => ?_)
  subst ep
  obtain ⟨rs, c, rk⟩ := carries_of (P := X.prog) (w := X.w) rel
  obtain ⟨z, hd, vs0, r0, dd⟩ := dk_of I2.hok e
  cases r0
  refine ⟨rs, c, dd, fun h' dd' hs => ⟨.ref s.heap.objs.size, _, ?_, rfl, q2⟩⟩
  have hz : (mergeK [] kvs).length ≤ sizeLine := by
    have h1 := length_mergeK kvs []
    rw [List.length_nil] at h1
    rw [sizeLine_eq]; omega
  have he : ∃ q, h'.get? s.heap.objs.size = some q := let ⟨q, _, _, hq, _⟩ := dd'; ⟨q, hq⟩
  exact d_write I2 (by rw [e]; exact True.intro) hs he (dk_new hz hd (rk.merge .nil) dd')


/-! ### methods -/
/-- a method call o.m(e) of a built-in, with one argument: what must be seen of the text -/
structure M1 (X : Cx) (o : Expr) (m : Str) (apos : Pos) (e : Expr) (cpos : Pos) : Prop where
  base : attributeBase o m X.env (eval o X.env) = eval o X.env
  few : ((backTo cpos (starEach [e] X.env)).all (fun x => !x.1) && (backToKw cpos (keywordEach [] X.env)).all (fun x => x.1.isSome)
    && decide (([e] : List Expr).length + ([] : List Keyword).length + (if ([] : List Keyword).isEmpty then 0 else 1) < 30)) = true
  line : (apos.endLine == cpos.line) = true
  trees : backTo cpos (starEach [e] X.env) = [(false, eval e X.env)]
structure M2 (X : Cx) (o : Expr) (m : Str) (apos : Pos) (e f : Expr) (cpos : Pos) : Prop where
  base : attributeBase o m X.env (eval o X.env) = eval o X.env
  few : ((backTo cpos (starEach [e, f] X.env)).all (fun x => !x.1) && (backToKw cpos (keywordEach [] X.env)).all (fun x => x.1.isSome)
    && decide (([e, f] : List Expr).length + ([] : List Keyword).length + (if ([] : List Keyword).isEmpty then 0 else 1) < 30)) = true
  line : (apos.endLine == cpos.line) = true
  trees : backTo cpos (starEach [e, f] X.env) = [(false, eval e X.env), (false, eval f X.env)]

/-- a is a dict, whatever its keys -/
def IsD (H : Hp) (a : Addr) : Prop := (∃ kvs, Rd H a (.dK kvs)) ∨ ∃ kvs, Rd H a (.dT kvs)
theorem isD_at {X : Cx} {pins : List (Addr × Obj)} {σ : St} {H : Hp} {s : Shared} {a : Addr} (I : Inv X pins σ H s) (d : IsD H a) :
    s.TypeIs (.ref a) "dict" ∧ (∀ b, Value.ref a = .ref b → ∃ ob, s.heap.get? b = some ob ∧ ob.dict = none) ∧ (a == sysModules) = false := by
  rcases d with ⟨kvs, e⟩ | ⟨kvs, e⟩
  · obtain ⟨_, hd, vs, _, dd⟩ := dk_rd I.hok e
    refine ⟨dd.typeIs, fun b q => ?_, hd⟩
    cases q
    obtain ⟨ob, _, _, h1, h2, _⟩ := dd
    exact ⟨ob, h1, h2.2.1⟩
  · obtain ⟨_, hd, xs, _, dd⟩ := dt_rd I.hok e
    refine ⟨dd.typeIs, fun b q => ?_, hd⟩
    cases q
    obtain ⟨ob, _, _, h1, h2, _⟩ := dd
    exact ⟨ob, h1, h2.2.1⟩

section
variable {X : Cx} {pins : List (Addr × Obj)} {σ : St} {H : Hp} {s : Shared} {a : Addr} {y d : V} {u r : Value} {o : Option V} {A : Around} {E : Value → Shared → Prop}
/-- d.get(y) -/
theorem d_get1 {Q : Value → Shared → Prop} (hu : A.units + 1 < cLine) (I : Inv X pins σ H s) (g : DGet H a y o) (ry : RelV y u) (h : ∀ w' s', Inv X pins σ H s' → RelV (o.getD .non) w' → Q w' s') :
    wpAny (model X.prog X.w) A (call (.builtin "dict.get") [.ref a, u]) Q E s := by
  rcases g with ⟨kvs, k, e, ey, l⟩ | ⟨kvs, k, b, e, ey, eb, l⟩
  · subst ey
    obtain ⟨z, hd, vs, rel, dd⟩ := dk_rd I.hok e
    refine call_meetsIn PySem.F.slot_dict_get dd.typeIs PySem.F.entry_dict_get (PySem.F.args_dict_get_2 _ _) (meets_dict_get (mixKind X.prog X.w) a (kV_is ry) hd) ⟨_, dd.mapOf, h _ _ (I.tok _) ?_⟩
    rw [l]
    exact (rel.val k).getD rfl
  · subst ey
    cases (show u = Value.ref b from ry)
    obtain ⟨z, hd, xs, rel, dd⟩ := dt_rd I.hok e
    refine call_meetsIn PySem.F.slot_dict_get dd.typeIs PySem.F.entry_dict_get (PySem.F.args_dict_get_2 _ _) (meetsH_dict_get (tupleKind (mixKind X.prog X.w)) a b hd) ⟨tupleKind_room_in1 hu, k, xs, key_of I.hok eb, dd, h _ _ (I.tok _) ?_⟩
    rw [l]
    exact (rel.val k).getD rfl
/-- d.get(y, x) -/
theorem d_get2 {Q : Value → Shared → Prop} (hu : A.units + 1 < cLine) (I : Inv X pins σ H s) (g : DGet H a y o) (ry : RelV y u) (rd : RelV d r) (h : ∀ w' s', Inv X pins σ H s' → RelV (o.getD d) w' → Q w' s') :
    wpAny (model X.prog X.w) A (call (.builtin "dict.get") [.ref a, u, r]) Q E s := by
  rcases g with ⟨kvs, k, e, ey, l⟩ | ⟨kvs, k, b, e, ey, eb, l⟩
  · subst ey
    obtain ⟨z, hd, vs, rel, dd⟩ := dk_rd I.hok e
    refine call_meetsIn PySem.F.slot_dict_get dd.typeIs PySem.F.entry_dict_get (PySem.F.args_dict_get_3 _ _ _) (meets_dict_get_default (mixKind X.prog X.w) a (kV_is ry) hd r) ⟨_, dd.mapOf, h _ _ (I.tok _) ?_⟩
    rw [l]
    exact (rel.val k).getD rd
  · subst ey
    cases (show u = Value.ref b from ry)
    obtain ⟨z, hd, xs, rel, dd⟩ := dt_rd I.hok e
    refine call_meetsIn PySem.F.slot_dict_get dd.typeIs PySem.F.entry_dict_get (PySem.F.args_dict_get_3 _ _ _) (meetsH_dict_get_default (tupleKind (mixKind X.prog X.w)) a b hd r) ⟨tupleKind_room_in1 hu, k, xs, key_of I.hok eb, dd, h _ _ (I.tok _) ?_⟩
    rw [l]
    exact (rel.val k).getD rd
end

def tDGet1 (td ty : TE) : TE := fun σ H Q => td σ H fun x H1 => ∃ a, x = .ref a ∧ IsD H1 a ∧ ty σ H1 fun y H2 => ∃ o, DGet H2 a y o ∧ Q (o.getD .non) H2
def tDGet2 (td ty tx : TE) : TE := fun σ H Q => td σ H fun x H1 => ∃ a, x = .ref a ∧ IsD H1 a ∧ ty σ H1 fun y H2 => tx σ H2 fun z H3 => ∃ o, DGet H3 a y o ∧ Q (o.getD z) H3
/-- d.pop(k): there; d.pop(k, x): there or not -/
def tDPop1 (td ty : TE) : TE := fun σ H Q => td σ H fun x H1 => ∃ a, x = .ref a ∧ IsD H1 a ∧ ty σ H1 fun y H2 => ∃ kvs k v, H2 a = some (.dK kvs) ∧ y = kV k ∧ valV kvs k = some v ∧ Q v (upd H2 a (.dK (dropK kvs k)))
def tDPop2 (td ty tx : TE) : TE := fun σ H Q => td σ H fun x H1 => ∃ a, x = .ref a ∧ IsD H1 a ∧ ty σ H1 fun y H2 => tx σ H2 fun z H3 => ∃ kvs k, H3 a = some (.dK kvs) ∧ y = kV k ∧
  (∀ v, valV kvs k = some v → Q v (upd H3 a (.dK (dropK kvs k)))) ∧ (valV kvs k = none → Q z H3)
section
variable {X : Cx} {o e f : Expr} {apos cpos : Pos} {td ty tx : TE}
theorem pe_dget1 (hu : X.A.units + 1 < cLine) (ho : PE X o td) (he : PE X e ty) (m : M1 X o "get" apos e cpos) : PE X (.Call (.Attribute o "get" apos) [e] [] cpos) (tDGet1 td ty) := by
  intro pins s σ H Q I h
  refine wpAny_Call_method m.base m.few m.line PySem.F.plainAttrs_dict PySem.F.slot_dict_get PySem.F.type_dict_get (thn (ho pins s σ H _ I h) fun u s1 ⟨x, H1, I1, rx, a, ex, d, q1⟩ => ?_)
  subst ex
  obtain rfl : u = Value.ref a := rx
  obtain ⟨t1, t2, _⟩ := isD_at I1 d
  refine ⟨t1, t2, ?_⟩
  rw [m.trees]
  refine Calls.callWith_builtin rfl (Calls.evalArgs_plain (Calls.spliced_cons (thn (he pins s1 σ H1 _ I1 q1) fun iv s2 ⟨y, H2, I2, ry, ov, g, q2⟩ => Calls.spliced_nil ?_)))
  exact d_get1 hu I2 g ry fun w' s3 I3 rw' => ⟨_, H2, I3, rw', q2⟩
theorem pe_dget2 (hu : X.A.units + 1 < cLine) (ho : PE X o td) (he : PE X e ty) (hf : PE X f tx) (m : M2 X o "get" apos e f cpos) : PE X (.Call (.Attribute o "get" apos) [e, f] [] cpos) (tDGet2 td ty tx) := by
  intro pins s σ H Q I h
  refine wpAny_Call_method m.base m.few m.line PySem.F.plainAttrs_dict PySem.F.slot_dict_get PySem.F.type_dict_get (thn (ho pins s σ H _ I h) fun u s1 ⟨x, H1, I1, rx, a, ex, d, q1⟩ => ?_)
  subst ex
  obtain rfl : u = Value.ref a := rx
  obtain ⟨t1, t2, _⟩ := isD_at I1 d
  refine ⟨t1, t2, ?_⟩
  rw [m.trees]
  refine Calls.callWith_builtin rfl (Calls.evalArgs_plain (Calls.spliced_cons (thn (he pins s1 σ H1 _ I1 q1) fun iv s2 ⟨y, H2, I2, ry, q2⟩ =>
    Calls.spliced_cons (thn (hf pins s2 σ H2 _ I2 q2) fun fv s3 ⟨z, H3, I3, rz, ov, g, q3⟩ => Calls.spliced_nil ?_))))
  exact d_get2 hu I3 g ry rz fun w' s4 I4 rw' => ⟨_, H3, I4, rw', q3⟩
theorem pe_dpop1 (ho : PE X o td) (he : PE X e ty) (m : M1 X o "pop" apos e cpos) : PE X (.Call (.Attribute o "pop" apos) [e] [] cpos) (tDPop1 td ty) := by
  intro pins s σ H Q I h
  refine wpAny_Call_method m.base m.few m.line PySem.F.plainAttrs_dict PySem.F.slot_dict_pop PySem.F.type_dict_pop (thn (ho pins s σ H _ I h) fun u s1 ⟨x, H1, I1, rx, a, ex, d, q1⟩ => ?_)
  subst ex
  obtain rfl : u = Value.ref a := rx
  obtain ⟨t1, t2, _⟩ := isD_at I1 d
  refine ⟨t1, t2, ?_⟩
  rw [m.trees]
  refine Calls.callWith_builtin rfl (Calls.evalArgs_plain (Calls.spliced_cons (thn (he pins s1 σ H1 _ I1 q1) fun iv s2 ⟨y, H2, I2, ry, kvs, k, v, ea, ey, l, q2⟩ => Calls.spliced_nil ?_)))
  subst ey
  exact d_pop I2 ea ry l (.inl rfl) fun w' s3 I3 rw' => ⟨v, _, I3, rw', q2⟩
theorem pe_dpop2 (ho : PE X o td) (he : PE X e ty) (hf : PE X f tx) (m : M2 X o "pop" apos e f cpos) : PE X (.Call (.Attribute o "pop" apos) [e, f] [] cpos) (tDPop2 td ty tx) := by
  intro pins s σ H Q I h
  refine wpAny_Call_method m.base m.few m.line PySem.F.plainAttrs_dict PySem.F.slot_dict_pop PySem.F.type_dict_pop (thn (ho pins s σ H _ I h) fun u s1 ⟨x, H1, I1, rx, a, ex, d, q1⟩ => ?_)
  subst ex
  obtain rfl : u = Value.ref a := rx
  obtain ⟨t1, t2, _⟩ := isD_at I1 d
  refine ⟨t1, t2, ?_⟩
  rw [m.trees]
  refine Calls.callWith_builtin rfl (Calls.evalArgs_plain (Calls.spliced_cons (thn (he pins s1 σ H1 _ I1 q1) fun iv s2 ⟨y, H2, I2, ry, q2⟩ =>
    Calls.spliced_cons (thn (hf pins s2 σ H2 _ I2 q2) fun fv s3 ⟨z, H3, I3, rz, kvs, k, ea, ey, q3, q4⟩ => Calls.spliced_nil ?_))))
  subst ey
  cases l : valV kvs k with
  | some v => exact d_pop I3 ea ry l (.inr ⟨fv, rfl⟩) fun w' s4 I4 rw' => ⟨v, _, I4, rw', q3 v l⟩
  | none => exact d_popD I3 ea ry l fun s4 I4 => ⟨z, H3, I4, rz, q4 l⟩
end

/-! ### dict(d): a copy -/
section
variable {X : Cx} {pins : List (Addr × Obj)} {σ : St} {H : Hp} {s : Shared} {a : Addr} {kvs : List (Key × V)} {A : Around} {E : Value → Shared → Prop}
theorem d_copyOf {Q : Value → Shared → Prop} (I : Inv X pins σ H s) (e : Rd H a (.dK kvs)) (h : ∀ p s', H p = none → Inv X pins σ (upd H p (.dK kvs)) s' → Q (.ref p) s') : wpAny (model X.prog X.w) A (call (.type "dict") [.ref a]) Q E s := by
  obtain ⟨z, hd, vs, rel, dd⟩ := dk_rd I.hok e
  refine kt_call_dict hd dd (by rw [← rel.length]; exact z) fun h' dd' hs => ?_
  refine h _ _ (I.hok.fresh (Nat.le_refl _)) (I.laid (a := s.heap.objs.size) (o := .dK kvs) (t' := s.toks) (fun b q hq => ?_) (Nat.le_refl _) (dk_new z (beq_eq_false_iff_ne.mpr (Ne.symm (Nat.ne_of_lt I.big))) rel dd'))
  exact (hs.2 b (Nat.ne_of_lt (Heap.lt_size hq))).trans (Heap.get?_push_of_some _ hq)
end


section
variable {X : Cx} {pins : List (Addr × Obj)} {σ : St} {H : Hp} {s : Shared} {a : Addr} {y : V} {u : Value} {A : Around} {E : Value → Shared → Prop}
/-- d[y], not there: a KeyError -/
theorem d_missing {Q : Value → Shared → Prop} (hu : A.units + 1 < cLine) (hh : A.handled = none) (I : Inv X pins σ H s) (g : DGet H a y none) (ry : RelV y u)
    (h : ∀ h' e t', Heap.NewExc s.heap h' e "KeyError" → E (.ref e) { s with heap := h', toks := t' }) : wpAny (model X.prog X.w) A (getItem (.ref a) u) Q E s := by
  rcases g with ⟨kvs, k, e, ey, l⟩ | ⟨kvs, k, b, e, ey, eb, l⟩
  · subst ey
    obtain ⟨z, hd, vs, rel, dd⟩ := dk_rd I.hok e
    have hn : valueAt vs k = none := RelO.none_of (by rw [l]; exact rel.val k)
    exact wpAny_getItem_missing_of (kV_is ry) hd hh dd.mapOf hn fun h' ex ne => h h' ex _ ne
  · subst ey
    cases (show u = Value.ref b from ry)
    obtain ⟨z, hd, xs, rel, dd⟩ := dt_rd I.hok e
    have hn : (atKey xs k).map (·.2) = none := RelO.none_of (by rw [l]; exact rel.val k)
    exact wpAny_getItem_missing_heap (tupleKind_room_in1 hu) (key_of I.hok eb) hd hh dd (Option.map_eq_none_iff.mp hn) fun h' ex ne => h h' ex _ ne
end
end L2

namespace L2
open PySem PySem.Spec PyProof.Rows
section
variable {X : Cx}
/-- len of a dict -/
theorem call_lenD : CallR X (.builtin "len") (fun xs H Q => ∃ a kvs, xs = [V.ref a] ∧ H a = some (.dK kvs) ∧ Q (.int kvs.length) H) := by
  intro pins s σ H xs us Q I r h
  obtain ⟨a, kvs, rfl, ha, q⟩ := h
  obtain ⟨u, rfl, ru⟩ := vals1 r
  cases ru
  exact d_len I (.inl ha) fun t s' I' => ⟨.int kvs.length, H, I', ⟨t, rfl⟩, q⟩
end
/-! ### a dict's pairs: keys that differ -/
section
variable {κ : Type} [DecidableEq κ]
theorem valV_not {kvs : List (κ × V)} {k : κ} (h : valV kvs k = none) : ¬ k ∈ kvs.map (·.1) := by
  intro m
  obtain ⟨p, hp, e⟩ := List.mem_map.mp m
  have q : (kvs.any fun kv => decide (kv.1 = k)) = true := List.any_eq_true.mpr ⟨p, hp, decide_eq_true e⟩
  rw [valV_any, h] at q
  exact absurd q (by simp)
theorem valV_in {kvs : List (κ × V)} {k : κ} {v : V} (h : valV kvs k = some v) : k ∈ kvs.map (·.1) := by
  have q : (kvs.any fun kv => decide (kv.1 = k)) = true := by
    rw [valV_any, h]
    all_goals rfl
  obtain ⟨p, hp, e⟩ := List.any_eq_true.mp q
  exact List.mem_map.mpr ⟨p, hp, of_decide_eq_true e⟩
theorem nd_snoc : ∀ {l : List κ} {k : κ}, l.Nodup → ¬ k ∈ l → (l ++ [k]).Nodup
  | [], k, _, _ => by simp
  | a :: r, k, h, hk => by
    obtain ⟨h1, h2⟩ := List.nodup_cons.mp h
    show (a :: (r ++ [k])).Nodup
    refine List.nodup_cons.mpr ⟨fun m => ?_, nd_snoc h2 fun m => hk (List.mem_cons.mpr (Or.inr m))⟩
    rcases List.mem_append.mp m with q | q
    · exact h1 q
    · exact hk (List.mem_cons.mpr (Or.inl (List.mem_singleton.mp q).symm))
theorem nd_putK {kvs : List (κ × V)} {k : κ} (v : V) (hn : (kvs.map (·.1)).Nodup) (h : valV kvs k = none) : ((putK kvs k v).map (·.1)).Nodup := by
  rw [putK_new v h, List.map_append]
  exact nd_snoc hn (valV_not h)
theorem dropK_pos {p : κ × V} {r : List (κ × V)} {k : κ} (e : p.1 = k) : dropK (p :: r) k = dropK r k := by
  unfold dropK
  rw [List.filter_cons, if_neg (by simp [e])]
theorem dropK_neg {p : κ × V} {r : List (κ × V)} {k : κ} (e : ¬ p.1 = k) : dropK (p :: r) k = p :: dropK r k := by
  unfold dropK
  rw [List.filter_cons, if_pos (by simp [e])]
theorem dropK_no : ∀ {kvs : List (κ × V)} {k : κ}, ¬ k ∈ kvs.map (·.1) → dropK kvs k = kvs
  | [], _, _ => rfl
  | p :: r, k, h => by
    have h' : ¬ k ∈ r.map (·.1) := fun m => by
      obtain ⟨q, hq, e⟩ := List.mem_map.mp m
      exact h (List.mem_map.mpr ⟨q, List.mem_cons.mpr (Or.inr hq), e⟩)
    rw [dropK_neg fun e => h (List.mem_map.mpr ⟨p, List.mem_cons.mpr (Or.inl rfl), e⟩), dropK_no h']
theorem dropK_mem {kvs : List (κ × V)} {k : κ} {p : κ × V} (h : p ∈ dropK kvs k) : p ∈ kvs := (List.mem_filter.mp h).1
theorem nd_dropK : ∀ {kvs : List (κ × V)} {k : κ}, (kvs.map (·.1)).Nodup → ((dropK kvs k).map (·.1)).Nodup
  | [], _, _ => List.nodup_nil
  | p :: r, k, h => by
    have h : (p.1 :: r.map (·.1)).Nodup := h
    obtain ⟨h1, h2⟩ := List.nodup_cons.mp h
    by_cases e : p.1 = k
    · rw [dropK_pos e]
      exact nd_dropK h2
    · rw [dropK_neg e]
      show (p.1 :: (dropK r k).map (·.1)).Nodup
      refine List.nodup_cons.mpr ⟨fun m => h1 ?_, nd_dropK h2⟩
      obtain ⟨q, hq, eq⟩ := List.mem_map.mp m
      exact List.mem_map.mpr ⟨q, dropK_mem hq, eq⟩
theorem dropK_len : ∀ {kvs : List (κ × V)} {k : κ}, (kvs.map (·.1)).Nodup → k ∈ kvs.map (·.1) → (dropK kvs k).length + 1 = kvs.length
  | [], _, _, m => by simp at m
  | p :: r, k, h, m => by
    have h : (p.1 :: r.map (·.1)).Nodup := h
    have m : k = p.1 ∨ k ∈ r.map (·.1) := List.mem_cons.mp m
    obtain ⟨h1, h2⟩ := List.nodup_cons.mp h
    by_cases e : p.1 = k
    · subst e
      rw [dropK_pos rfl, dropK_no h1]
      all_goals rfl
    · have m' : k ∈ r.map (·.1) := m.resolve_left fun z => e z.symm
      have q := dropK_len h2 m'
      rw [dropK_neg e, List.length_cons, List.length_cons]
      omega
end
end L2

set_option maxHeartbeats 4000000
namespace L2
open PySem PySem.Spec PyProof.Rows
section
variable {X : Cx}
/-! ### list.insert, .count, .remove -/
def rInsert : V → List V → Hp → VK → Prop := fun x vs H Q => ∃ (l : Addr) (xs : List V) (j : Int) (i : Nat) (y : V), x = .ref l ∧ vs = [.int j, y] ∧ j = i ∧ H l = some (.lst xs) ∧ i ≤ xs.length ∧ xs.length < 4096 ∧ Q .non (upd H l (.lst (xs.take i ++ [y] ++ xs.drop i)))
theorem mt_insert : MtM X "list.insert" rInsert := by
  intro pins s σ H x vs v us Q I rx rv h
  obtain ⟨l, xs, j, i, y, rfl, rfl, hj, hH, h1, h2, q⟩ := h
  cases rx
  obtain ⟨u1, u2, rfl, r1, r2⟩ := rv.two
  obtain ⟨t, rfl⟩ := r1
  obtain ⟨z, its, n, r, hl, e⟩ := I.lstM hH
  have hs : its.length < 4096 := by omega
  have a0 : 0 ≤ j := by omega
  have a1 : -(2 ^ 63 : Int) ≤ j := Int.le_trans (by decide) a0
  have a2 : j < 2 ^ 63 := Int.lt_of_le_of_lt (show j ≤ 4096 by omega) (by decide)
  have a3 : its.toArray.size ≤ sizeLine := by rw [List.size_toArray]; exact Nat.le_trans (Nat.le_of_lt hs) (by decide)
  have a4 : ¬ (!Builtin.List.listFitsIndex j) = true := by rw [fitsIndex_both a1 a2]; decide
  have M := AutoSeq1.list_insert_list_int_val_1 l its.toArray n j t u2 a4 a3
  refine call_meets F.slot_list_insert ⟨_, e, rfl⟩ F.entry_list_insert (F.args_list_insert_3 _ _ _) M ⟨e, ?_⟩
  refine ⟨.non, _, I.lset (its' := its.take i ++ [u2] ++ its.drop i) hH e ?_ (((r.take i).append (.cons r2 .nil)).append (r.drop i)) ?_, rfl, q⟩
  · have hk : (if j < 0 then (j + ((its.toArray.size : Nat) : Int)).toNat else min j.toNat its.toArray.size) = i := by
      rw [if_neg (by omega), List.size_toArray]
      omega
    show (its.toArray.extract 0 _).push u2 ++ its.toArray.extract _ = _
    rw [hk]
    simp
    exact List.take_of_length_le (by rw [List.length_drop]; omega)
  · simp only [List.length_append, List.length_take, List.length_drop, List.length_cons, List.length_nil]
    have : xs.length + 1 ≤ sizeLine := Nat.le_trans (by omega : xs.length + 1 ≤ 4096) (by decide)
    omega
theorem countP_eqU {x : V} : ∀ {xs : List V} {its : List Value}, Vals xs its → xs.all flatV = true → its.countP (eqU x) = xs.countP (fun z => eqV z x)
  | [], _, .nil, _ => rfl
  | y :: xs, _, .cons (b := u) r rr, f => by
    have fy : flatV y = true := by rw [List.all_cons, Bool.and_eq_true] at f; exact f.1
    have fx : xs.all flatV = true := by rw [List.all_cons, Bool.and_eq_true] at f; exact f.2
    have h1 : [u].any (eqU x) = [y].any (fun z => eqV z x) := any_eqU (.cons r .nil) (by simp [fy])
    have h2 : eqU x u = eqV y x := by simpa using h1
    rw [List.countP_cons, List.countP_cons, countP_eqU rr fx, h2]
def rCount : V → List V → Hp → VK → Prop := fun x vs H Q => ∃ (l : Addr) (xs : List V) (y : V), x = .ref l ∧ vs = [y] ∧ H l = some (.lst xs) ∧ flatV y = true ∧ xs.all flatV = true ∧ Q (.int (xs.countP fun z => eqV z y)) H
theorem mt_count : MtM X "list.count" rCount := by
  intro pins s σ H x vs v us Q I rx rv h
  obtain ⟨l, xs, y, rfl, rfl, hH, fy, fs, q⟩ := h
  cases rx
  obtain ⟨u, rfl, ru⟩ := rv.one
  obtain ⟨z, its, n, r, hl, e⟩ := I.lstM hH
  refine call_meets F.slot_list_count ⟨_, e, rfl⟩ F.entry_list_count (F.args_list_count_2 _ _) (SeqAt.list_countAt l its.toArray n none #[] u (eqU y)) ⟨e, fun w hw => mem_eqAt ru fy r fs w (by simpa using hw), ?_⟩
  refine ⟨.int _, H, I.tok _, ⟨s.toks, ?_⟩, q⟩
  rw [show its.toArray.toList = its by simp, countP_eqU r fs]
end
end L2

set_option maxHeartbeats 4000000
namespace L2
open PySem PySem.Spec PyProof.Rows
/-! ### enumerate of a list, its pairs unpacked -/
def Ite (K : PySem.W.Frag) (a : Addr) : It :=
  ⟨fun i H => ∃ xs x, SqL K H a xs ∧ xs[i]? = some x, fun i H x H' => ∃ p v, x = .ref p ∧ H p = none ∧ H' = upd H p (.tup [.int i, v]) ∧ ∀ xs, SqL K H a xs → xs[i]? = some v, fun i H => ∃ xs, SqL K H a xs ∧ xs.length ≤ i⟩
/-- two records of an iterator have turned, a tuple is new -/
theorem Inv.turned2 {X : Cx} {pins : List (Addr × Obj)} {σ : St} {H : Hp} {s : Shared} {h' : Heap} {e it p : Addr} {t' : Nat} {xs : List V} {its : List Value} (I : Inv X pins σ H s) (fe : FpOk X pins H e) (fi : FpOk X pins H it)
    (k : ∀ b o, b ≠ e → b ≠ it → s.heap.get? b = some o → h'.get? b = some o) (ke : ∃ o, h'.get? e = some o) (ki : ∃ o, h'.get? it = some o) (hp : s.heap.objs.size ≤ p) (hl : xs.length ≤ sizeLine) (r : Vals xs its)
    (ht : h'.get? p = some { cls := .type "tuple", data := .seq its.toArray }) : Inv X pins σ (upd H p (.tup xs)) { s with heap := h', toks := t' } := by
  have hn := I.hok.fresh hp
  obtain ⟨e0, e1, e2, e3, e4, e5⟩ := fe
  obtain ⟨i0, i1, i2, i3, i4, i5⟩ := fi
  have ne : ∀ b o, s.heap.get? b = some o → b ≠ p := fun b o q => Nat.ne_of_lt (Nat.lt_of_lt_of_le (Heap.lt_size q) hp)
  have keepN : ∀ b o, H b = some o → b ≠ e ∧ b ≠ it := fun b o q => ⟨(fun z => by rw [z, e0] at q; cases q), (fun z => by rw [z, i0] at q; cases q)⟩
  refine I.step (g' := s.gens) (d' := s.drawn) (ch := [e, it]) (fun b hb => ?_) (fun b o _ _ hb q _ => ?_) (fun b o _ _ hb q _ => ⟨o.slots, ?_⟩) (fun b o hb q n => by rw [upd_ne (ne b o q)]; exact n) (fun b o hb q => ⟨o, ?_⟩)
    (fun b ys q => by rw [upd_ne (ne_of_none q hn)]; exact q) (fun b o u q => by rw [upd_ne (ne_of_none q hn)]; exact q) (fun b ps q => ⟨#[], by rw [upd_ne (ne_of_none q hn), q]; simp⟩) (fun m hm => ?_) (fun b o q => ?_) I.bare
  · rcases List.mem_cons.mp hb with rfl | hb
    · exact ⟨e3, e1, e4, e5⟩
    · rw [List.mem_singleton.mp hb]; exact ⟨i3, i1, i4, i5⟩
  · exact k b o (fun z => hb (z ▸ List.mem_cons_self)) (fun z => hb (z ▸ List.mem_cons_of_mem _ List.mem_cons_self)) q
  · exact k b o (fun z => hb (z ▸ List.mem_cons_self)) (fun z => hb (z ▸ List.mem_cons_of_mem _ List.mem_cons_self)) q
  · exact k b o (fun z => hb (z ▸ List.mem_cons_self)) (fun z => hb (z ▸ List.mem_cons_of_mem _ List.mem_cons_self)) q
  · obtain ⟨o, es, ep, q, d, r'⟩ := hm
    exact ⟨o, es, ep, k _ _ e1.symm i1.symm q, d, r'⟩
  · by_cases hb : b = p
    · subst hb
      rw [upd_same] at q; cases q
      exact ⟨hl, its, r, _, ht, rfl, _, rfl⟩
    · rw [upd_ne hb] at q
      refine (I.hok b o q).stay (fun c u hc z => k c u ?_ ?_ z) (fun c z => by rw [upd_ne (ne_of_none z hn)]; exact z) fun c ys z => by rw [upd_ne (ne_of_none z hn)]; exact z
      · rcases hc with rfl | hc
        · exact (keepN _ _ q).1
        · exact (keepN _ _ hc).1
      · rcases hc with rfl | hc
        · exact (keepN _ _ q).2
        · exact (keepN _ _ hc).2
theorem turn_enum {P : Program} {w : World} {K : PySem.W.Frag} {es : List Expr} {x1 : Nat} {pos : Pos} (a e it : Addr) (hne : e ≠ it) :
    Turn P w K (.Tuple es x1 pos) (Ite K a) [e, it] e (fun i h => (∃ old, IsEnum h e it (i : Int) old) ∧ h.IsListIter it a i) where
  mem := by simp
  obj := fun i h st b hb => by
    obtain ⟨⟨old, he⟩, ⟨o, q, c, d⟩⟩ := st
    rcases List.mem_cons.mp hb with rfl | hb
    · exact ⟨_, he, fun v z => by
        have z' : Data.fields _ = Data.cell v := z
        cases z'⟩
    · rw [List.mem_singleton.mp hb]
      exact ⟨o, q, fun v z => by rw [d] at z; cases z⟩
  keep := fun i h h' st k => by
    obtain ⟨⟨old, he⟩, hi⟩ := st
    exact ⟨⟨old, k e (by simp) _ he⟩, hi.at fun o q => k it (by simp) o q⟩
  item := by
    intro X hP hw hK hc i pins s σ H E I hf st hg
    subst hP hw hK
    obtain ⟨xs, x, hq, hx⟩ := hg
    obtain ⟨its, rv, p, hz⟩ := I.list hq
    obtain ⟨u, hu, ru⟩ := rv.get hx
    obtain ⟨⟨old, he⟩, hi⟩ := st
    refine wpAny_pyNext_enum_item he hi p.isList (x := u) (by simpa using hu) hne fun h' ho hi' ht hsz k => ?_
    refine ⟨_, rfl, wpAny_letOwnedTupleGo_enum ho fun h2 he2 hs2 => ?_⟩
    have hpe : s.heap.objs.size ≠ e := Nat.ne_of_gt (Heap.lt_size he)
    have hi2 : h2.IsListIter it a (i + 1) := hi'.extBut hs2.extBut hne.symm
    have fe := hf e (by simp)
    have fi := hf it (by simp)
    have I2 : Inv X pins σ (upd H s.heap.objs.size (.tup [.int i, x])) { s with heap := h2, toks := s.toks + 1 } := by
      refine I.turned2 (its := [.int i s.toks, u]) fe fi (fun b o h1 h3 q => (hs2.2 b h1).trans (k b o h1 h3 q)) ⟨_, he2⟩ ?_ (Nat.le_refl _) (by show 2 ≤ sizeLine; decide) (.cons ⟨_, rfl⟩ (.cons ru .nil)) ((hs2.2 _ hpe).trans ht)
      obtain ⟨o, q, _⟩ := hi2
      exact ⟨o, q⟩
    refine ⟨.ref s.heap.objs.size, _, I2, rfl, ⟨_, x, rfl, I.hok.fresh (Nat.le_refl _), rfl, fun ys hy => by rw [I.list_inj hy hq]; exact hx⟩, ⟨⟨u, he2⟩, hi2⟩, fun b hb => ?_⟩
    have f0 := (hf b hb).1
    rw [upd_ne]
    · exact f0
    · rcases List.mem_cons.mp hb with rfl | hb
      · exact hpe.symm
      · rw [List.mem_singleton.mp hb]
        obtain ⟨o, q, _⟩ := hi
        exact Nat.ne_of_lt (Heap.lt_size q)
  done := by
    intro X hP hw hK hc i pins s σ H E I hf st hg
    subst hP hw hK
    obtain ⟨xs, hq, hx⟩ := hg
    obtain ⟨its, rv, p, hz⟩ := I.list hq
    obtain ⟨f0, f1, f2, f3, f4, f5⟩ := hf it (by simp)
    obtain ⟨⟨old, he⟩, hi⟩ := st
    have hl := rv.length
    exact wpAny_pyNext_enum_end (I.ok.hd hc) he hi p.isList (by simp; omega) fun h' eb => ⟨rfl, I.turned (t' := s.toks) (fun b o hb e => eb b o hb e) f0 f1 f3 f4 f5⟩
  self := fun _ _ _ _ _ st h => by
    obtain ⟨⟨old, he⟩, _⟩ := st
    exact wpAny_pyIter_enum he h
end L2

set_option maxHeartbeats 4000000
namespace L2
open PySem PySem.Spec PyProof.Rows
section
variable {X : Cx}
def iEnum (K : PySem.W.Frag) (ta : TA) : TI := fun σ H R => ta σ H fun vs H1 => ∃ a xs, vs = [.ref a] ∧ H1 a = some (.lst xs) ∧ R (Ite K a) H1
theorem pi_enum {es : List Expr} {x1 : Nat} {tpos : Pos} {a : Expr} {ta : TA} {p pos : Pos} (hg : Gl X "enumerate") (hm : X.mg "enumerate" = none) (ha : PA X [a] ta) (hs : starEach [a] X.env = [(false, eval a X.env)] := by rfl) :
    PI X (.Tuple es x1 tpos) (.Call (.Name "enumerate" p) [a] [] pos) (iEnum X.K ta) := by
  intro pins s σ H R I h
  refine Call_ (ld_blt I hg hm (by decide +kernel : bootBuiltins "enumerate" = some (.type "enumerate")) (PyProof.Rows.callWith_type1 (thn (ha pos pins s σ H _ I h) fun us s1 ⟨vs, H1, I1, r1, q1⟩ => ?_) hs rfl))
  obtain ⟨l, xs, rfl, hl, q⟩ := q1
  obtain ⟨u1, rfl, ru1⟩ := r1.one
  obtain rfl : u1 = Value.ref l := ru1
  obtain ⟨z, its, n, r, _, e⟩ := I1.lstM hl
  refine call_enumerate_1 e fun h' he hi hsz k => ?_
  have hne : s1.heap.objs.size + 1 ≠ s1.heap.objs.size := Nat.succ_ne_self _
  refine wpAny_pyIter_enum he ?_
  have I2 : Inv X pins σ H1 { s1 with heap := h' } := I1.kept (t' := s1.toks) k
  refine ⟨s1.heap.objs.size + 1, [s1.heap.objs.size + 1, s1.heap.objs.size], _, _, H1, rfl, I2, turn_enum l _ _ hne, ⟨⟨_, he⟩, hi⟩, fun b hb => ?_, q⟩
  have hb' : s1.heap.objs.size ≤ b := by
    rcases List.mem_cons.mp hb with rfl | hb
    · exact Nat.le_succ _
    · rw [List.mem_singleton.mp hb]; exact Nat.le_refl _
  exact I1.fpOk hb' (I1.hok.fresh hb')
theorem for_enum {K : PySem.W.Frag} {a : Addr} {xs : List V} {g : TG} {tb : TS} {D : Ends} {σ : St} {H : Hp} (Pv : Nat → St → Hp → Prop) (h0 : Pv 0 σ H) (hl : ∀ i σ H, i ≤ xs.length → Pv i σ H → SqL K H a xs)
    (hs : ∀ i x p σ H, xs[i]? = some x → Pv i σ H → H p = none → g (.ref p) σ (upd H p (.tup [.int i, x])) fun σ2 H2 => tb { D with nx := Pv (i + 1), ct := Pv (i + 1), bk := D.nx } σ2 H2) (hd : ∀ σ H, Pv xs.length σ H → D.nx σ H) :
    ∃ W : Nat → Nat → St → Hp → Prop, (∃ m, W 0 m σ H) ∧ ∀ i m σ H, W i m σ H →
      ((Ite K a).stop i H ∧ D.nx σ H) ∨ ((Ite K a).go i H ∧ ∃ N : St → Hp → Prop, (∀ σ' H', N σ' H' → ∃ m', m' < m ∧ W (i + 1) m' σ' H') ∧ ∀ x H', (Ite K a).yld i H x H' → g x σ H' fun σ2 H2 => tb { D with nx := N, ct := N, bk := D.nx } σ2 H2) := by
  refine ⟨fun i m σ H => m = xs.length - i ∧ i ≤ xs.length ∧ Pv i σ H, ⟨xs.length, by simp, Nat.zero_le _, h0⟩, ?_⟩
  rintro i m σ H ⟨rfl, hi, p⟩
  have q := hl i σ H hi p
  by_cases hlt : i < xs.length
  · refine .inr ⟨⟨xs, xs[i], q, by simp [hlt]⟩, Pv (i + 1), fun σ' H' p' => ⟨xs.length - (i + 1), by omega, rfl, hlt, p'⟩, fun x H' y => ?_⟩
    obtain ⟨pp, v, rfl, hn, rfl, hv⟩ := y
    exact hs i v pp σ _ (hv xs q) p hn
  · have e : i = xs.length := by omega
    subst e
    exact .inl ⟨⟨xs, q, Nat.le_refl _⟩, hd σ H p⟩
theorem comp_enum {K : PySem.W.Frag} {a D : Addr} {xs : List V} {g : TG} {tt : TT} {te : TE} {fin : Hp → Prop} {σB : St} {H0 : Hp} (Pv : Nat → List V → St → Hp → Prop) (h0 : Pv 0 [] σB H0)
    (hl : ∀ i ys σ H, i ≤ xs.length → Pv i ys σ H → SqL K H a xs)
    (hs : ∀ i x p ys σ H (Kt : V → St → Hp → Prop) (Kf : St → Hp → Prop), xs[i]? = some x → Pv i ys σ H → H p = none →
      (∀ v σ2 H4, H4 D = some (.lst ys) → ys.length < sizeLine → Pv (i + 1) (ys ++ [v]) σ2 (upd H4 D (.lst (ys ++ [v]))) → Kt v σ2 H4) → (∀ σ2 H3, Pv (i + 1) ys σ2 H3 → Kf σ2 H3) →
      g (.ref p) σ (upd H p (.tup [.int i, x])) fun σ2 H2 => tt σ2 H2 fun b H3 => if b = true then te σ2 H3 fun v H4 => Kt v σ2 H4 else Kf σ2 H3)
    (hd : ∀ ys σ H, Pv xs.length ys σ H → fin H) : CompW (Ite K a) g tt te D fin σB H0 := by
  refine ⟨fun i m σ H => m = xs.length - i ∧ i ≤ xs.length ∧ ∃ ys, Pv i ys σ H, ⟨xs.length, by simp, Nat.zero_le _, [], h0⟩, ?_⟩
  rintro i m σ H ⟨rfl, hi, ys, p⟩
  have q := hl i ys σ H hi p
  by_cases hlt : i < xs.length
  · refine .inr ⟨⟨xs, xs[i], q, by simp [hlt]⟩, ?_⟩
    rintro x H' ⟨pp, v, rfl, hn, rfl, hv⟩
    exact hs i v pp ys σ _ (fun v σ2 H4 => ∃ ys, H4 D = some (.lst ys) ∧ ys.length < sizeLine ∧ ∃ m', m' < xs.length - i ∧ m' = xs.length - (i + 1) ∧ i + 1 ≤ xs.length ∧ ∃ ys', Pv (i + 1) ys' σ2 (upd H4 D (.lst (ys ++ [v]))))
      (fun σ2 H3 => ∃ m', m' < xs.length - i ∧ m' = xs.length - (i + 1) ∧ i + 1 ≤ xs.length ∧ ∃ ys', Pv (i + 1) ys' σ2 H3) (hv xs q) p hn
      (fun v σ2 H4 z1 z2 z3 => ⟨ys, z1, z2, _, by omega, rfl, hlt, _, z3⟩) (fun σ2 H3 z => ⟨_, by omega, rfl, hlt, _, z⟩)
  · have e : i = xs.length := by omega
    subst e
    exact .inl ⟨⟨xs, q, Nat.le_refl _⟩, hd ys σ H p⟩
end
end L2

set_option maxHeartbeats 4000000
namespace L2
open PySem PySem.Spec PyProof.Rows
section
variable {prog : Program} {w : World} {A : Around} {E : Value → Shared → Prop} {s : Shared}
/-! ### the next of a tuple's iterator, asked by another iterator -/
theorem tnext_item {it t : Addr} {i : Nat} {xs : Array Value} {x : Value} {Q : Value → Shared → Prop} (hit : s.heap.IsTupleIter it t i) (ht : s.heap.IsTuple t xs) (hx : xs[i]? = some x)
    (q : ∀ h', h'.IsTupleIter it t (i + 1) → Heap.SameBut it s.heap h' → Q x { s with heap := h' }) : wpAny (model prog w) A (Builtin.SmallTypes.nextOf (.ref it)) Q E s := by
  obtain ⟨o, h1, h2, h3⟩ := id hit
  obtain ⟨p, k1, _, n, k3⟩ := ht
  unfold Builtin.SmallTypes.nextOf
  refine wpAny_bind (wpAny_callSpecial?_slot (name := Str.ofString "__next__") hit.typeIs F.slot_tuple_iterator_next (wpAny_call_entry F.slot_tuple_iterator_next hit.typeIs F.entry_tuple_iterator_next ?_ (F.args_tuple_iterator_next_1 _)))
  change wpAny _ _ (field (.ref it) 0 >>= _) _ _ s
  refine wpAny_bind (wpAny_field h1 h3 (x := .ref t) rfl ?_)
  change wpAny _ _ (if (Value.ref t == Value.none) = true then _ else _) _ _ s
  rw [if_neg (by exact Bool.false_ne_true)]
  change wpAny _ _ (field (.ref it) 1 >>= _) _ _ s
  refine wpAny_bind (wpAny_field h1 h3 (x := .int i 0) rfl ?_)
  change wpAny _ _ (seqItems? (.ref t) >>= _) _ _ s
  refine wpAny_bind (wpAny_seqItems k1 k3 ?_)
  simp only [Int.toNat_natCast, hx]
  refine wpAny_bind (wpAny_setField h1 h3 (by simp) (wpAny_pure ⟨x, rfl, wpAny_pure (q _ ?_ (Heap.SameBut.update ..))⟩))
  refine ⟨_, Heap.get?_update_self _ h1 (Obj.isFreed_of_fields (Obj.data_mapFields h3 _)), (Obj.cls_mapFields ..).trans h2, ?_⟩
  rw [Obj.data_mapFields h3]; simp [rawInt]
theorem tnext_end {it t : Addr} {i : Nat} {xs : Array Value} {Q : Value → Shared → Prop} (hh : A.handled = none) (hit : s.heap.IsTupleIter it t i) (ht : s.heap.IsTuple t xs) (hx : xs[i]? = none)
    (q : ∀ h' e, Heap.ExtBut it s.heap h' → (∃ o, h'.get? e = some o ∧ o.cls = .type "StopIteration") → E (.ref e) { s with heap := h' }) : wpAny (model prog w) A (Builtin.SmallTypes.nextOf (.ref it)) Q E s := by
  obtain ⟨o, h1, h2, h3⟩ := id hit
  obtain ⟨p, k1, _, n, k3⟩ := ht
  unfold Builtin.SmallTypes.nextOf
  refine wpAny_bind (wpAny_callSpecial?_slot (name := Str.ofString "__next__") hit.typeIs F.slot_tuple_iterator_next (wpAny_call_entry F.slot_tuple_iterator_next hit.typeIs F.entry_tuple_iterator_next ?_ (F.args_tuple_iterator_next_1 _)))
  change wpAny _ _ (field (.ref it) 0 >>= _) _ _ s
  refine wpAny_bind (wpAny_field h1 h3 (x := .ref t) rfl ?_)
  change wpAny _ _ (if (Value.ref t == Value.none) = true then _ else _) _ _ s
  rw [if_neg (by exact Bool.false_ne_true)]
  change wpAny _ _ (field (.ref it) 1 >>= _) _ _ s
  refine wpAny_bind (wpAny_field h1 h3 (x := .int i 0) rfl ?_)
  change wpAny _ _ (seqItems? (.ref t) >>= _) _ _ s
  refine wpAny_bind (wpAny_seqItems k1 k3 ?_)
  simp only [Int.toNat_natCast, hx]
  refine wpAny_bind (wpAny_rule (wpAny_bind (wpAny_setField h1 h3 (by simp) ?stop)))
  case stop =>
    change wpAny _ _ (newExc (.type "StopIteration") [] >>= _) _ _ _
    refine wpAny_bind ?_
    simp only [newExc, newTuple]
    refine wpAny_bind (wpAny_newObj_type (wpAny_bind (m := firstArgMember _ _) (wpAny_of_eq (a := Value.none) (by simp only [firstArgMember]; rfl) (wpAny_newObj_type ?_ (by size_fits)))) (by size_fits))
    simp only [raiseNew]
    refine wpAny_bind (wpAny_handled ?_)
    rw [show A.in1.handled = none from hh]
    exact wpAny_bind (wpAny_pure (wpAny_throw (q _ _ (fun b u hb z => Heap.get?_push_of_some _ (Heap.get?_push_of_some _ ((Heap.get?_update_other _ _ (Ne.symm hb)).trans z))) ⟨_, Heap.get?_push_size _ rfl, rfl⟩)))
theorem draws_tuple (hh : A.handled = none) (it t : Addr) (hne : t ≠ it) (xs : Array Value) : Draws prog w A it [it, t] xs.size (fun i v => xs[i]? = some v) (fun i h => h.IsTupleIter it t i ∧ h.IsTuple t xs) where
  live := fun _ _ st => let ⟨o, ho, _⟩ := st.1; ⟨o, ho⟩
  frame := fun _ _ _ st hk => ⟨st.1.at fun o e => hk it (by simp) o e, let ⟨o, e, r⟩ := st.2; ⟨o, hk t (by simp) o e, r⟩⟩
  item := fun i s Q E hi st q => by
    refine tnext_item st.1 st.2 (x := xs[i]) (by simp [hi]) fun h' a b => ?_
    obtain ⟨o, e, r⟩ := st.2
    exact q _ h' s.toks (by simp [hi]) ⟨a, o, (b.2 t hne).trans e, r⟩ b
  done := fun s Q E st q => tnext_end hh st.1 st.2 (by simp) q
end
end L2

set_option maxHeartbeats 4000000
namespace L2
open PySem PySem.Spec PyProof.Rows
/-! ### enumerate of a tuple -/
theorem enum_newT (t : Addr) (xs : Array Value) :
    Meets (Builtin.«enumerate.__new__» ⟨[.type "enumerate", .ref t], []⟩) (fun _ R s => s.heap.IsTuple t xs ∧
      R (.ok (.ret (.ref (s.heap.push { cls := .type "tuple_iterator", data := .fields #[.ref t, .int 0 0] }).objs.size)))
        { s with heap := (s.heap.push { cls := .type "tuple_iterator", data := .fields #[.ref t, .int 0 0] }).push { cls := .type "enumerate", data := .fields #[.none, .bool false, .ref s.heap.objs.size, rawInt 0, .none, .none] } }) :=
  .of_wp fun prog w A R s h => by
    obtain ⟨hp, g, d, tk, os⟩ := s
    obtain ⟨hT, h⟩ := h
    have hs := sub_enumerate
    wp_walk
    refine wpAny_stack_any fun st => wpAny_pure ?_
    split
    · rename_i c _ _ _ _ _
      cases (c == Value.type "enumerate") <;> · wp_walk using wpAny_pyIter_tuple hT
                                                exact ⟨_, rfl, h⟩
    · wp_walk using wpAny_pyIter_tuple hT
      exact ⟨_, rfl, h⟩
theorem enum_callT {prog : Program} {w : World} {A : Around} {E : Value → Shared → Prop} {s : Shared} {t : Addr} {xs : Array Value} {Q : Value → Shared → Prop} (ht : s.heap.IsTuple t xs)
    (h : ∀ h', IsEnum h' (s.heap.objs.size + 1) s.heap.objs.size 0 .none → h'.IsTupleIter s.heap.objs.size t 0 → (∀ b o, s.heap.get? b = some o → h'.get? b = some o) → Q (.ref (s.heap.objs.size + 1)) { s with heap := h' }) :
    wpAny (model prog w) A (call (.type "enumerate") [.ref t]) Q E s := by
  refine callType_new F.called_enumerate (by decide) (F.typeCall_enumerate_1 _) (F.newCall_enumerate_1 _) (fun obj => F.args_object_init_2 obj _) F.entry_enumerate_new (enum_newT t xs) ⟨ht, ?_⟩
  have hz : (s.heap.push { cls := .type "tuple_iterator", data := .fields #[.ref t, .int 0 0] }).objs.size = s.heap.objs.size + 1 := Heap.size_push ..
  have he : IsEnum ((s.heap.push { cls := .type "tuple_iterator", data := .fields #[.ref t, .int 0 0] }).push
      { cls := .type "enumerate", data := .fields #[.none, .bool false, .ref s.heap.objs.size, rawInt 0, .none, .none] }) (s.heap.objs.size + 1) s.heap.objs.size 0 .none := by
    have q := Heap.get?_push_size (s.heap.push { cls := .type "tuple_iterator", data := .fields #[.ref t, .int 0 0] }) (o := { cls := .type "enumerate", data := .fields #[.none, .bool false, .ref s.heap.objs.size, rawInt 0, .none, .none] }) rfl
    rw [hz] at q; exact q
  show _ ∧ _
  rw [hz]
  exact ⟨⟨_, he, rfl⟩, h _ he ⟨_, Heap.get?_push_of_some _ (Heap.get?_push_size _ rfl), rfl, rfl⟩ fun b o x => Heap.get?_push_of_some _ (Heap.get?_push_of_some _ x)⟩
def IteT (K : PySem.W.Frag) (a : Addr) : It :=
  ⟨fun i H => ∃ xs x, SqT K H a xs ∧ xs[i]? = some x, fun i H x H' => ∃ p v, x = .ref p ∧ H p = none ∧ H' = upd H p (.tup [.int i, v]) ∧ ∀ xs, SqT K H a xs → xs[i]? = some v, fun i H => ∃ xs, SqT K H a xs ∧ xs.length ≤ i⟩
theorem turn_enumT {P : Program} {w : World} {K : PySem.W.Frag} {es : List Expr} {x1 : Nat} {pos : Pos} (a e it : Addr) (hne : e ≠ it) (hae : a ≠ e) (hai : a ≠ it) :
    Turn P w K (.Tuple es x1 pos) (IteT K a) [e, it] e (fun i h => (∃ old, IsEnum h e it (i : Int) old) ∧ h.IsTupleIter it a i) where
  mem := by simp
  obj := fun i h st b hb => by
    obtain ⟨⟨old, he⟩, ⟨o, q, c, d⟩⟩ := st
    rcases List.mem_cons.mp hb with rfl | hb
    · exact ⟨_, he, fun v z => by
        have z' : Data.fields _ = Data.cell v := z
        cases z'⟩
    · rw [List.mem_singleton.mp hb]
      exact ⟨o, q, fun v z => by rw [d] at z; cases z⟩
  keep := fun i h h' st k => by
    obtain ⟨⟨old, he⟩, hi⟩ := st
    exact ⟨⟨old, k e (by simp) _ he⟩, hi.at fun o q => k it (by simp) o q⟩
  item := by
    intro X hP hw hK hc i pins s σ H E I hf st hg
    subst hP hw hK
    obtain ⟨xs, x, hq, hx⟩ := hg
    obtain ⟨its, rv, p, hz⟩ := I.tuple hq
    obtain ⟨u, hu, ru⟩ := rv.get hx
    obtain ⟨⟨old, he⟩, hi⟩ := st
    have hlt : i < its.toArray.size := by
      have := (List.getElem?_eq_some_iff.mp hu).1
      simpa using this
    have D := draws_tuple (prog := X.prog) (w := X.w) (A := X.A.in1) (I.ok.hd hc) it a hai its.toArray
    refine wpAny_pyNext_enum_itemD D he ⟨hi, p⟩ hlt hne (by simp [hne, hae.symm]) fun u' h' tk hu' ho hst ht hsz k => ?_
    have eu : u' = u := by
      have h1 : its.toArray[i]? = some u := by simpa using hu
      rw [h1] at hu'
      exact (Option.some.inj hu').symm
    subst eu
    refine ⟨_, rfl, wpAny_letOwnedTupleGo_enum ho fun h2 he2 hs2 => ?_⟩
    have hpe : s.heap.objs.size ≠ e := Nat.ne_of_gt (Heap.lt_size he)
    have hi2 : h2.IsTupleIter it a (i + 1) := hst.1.at fun o q => (hs2.2 it hne.symm).trans q
    have fe := hf e (by simp)
    have fi := hf it (by simp)
    have I2 : Inv X pins σ (upd H s.heap.objs.size (.tup [.int i, x])) { s with heap := h2, toks := tk + 1 } := by
      refine I.turned2 (its := [.int i tk, u']) fe fi (fun b o h1 h3 q => (hs2.2 b h1).trans (k b o h1 h3 q)) ⟨_, he2⟩ ?_ (Nat.le_refl _) (by show 2 ≤ sizeLine; decide) (.cons ⟨_, rfl⟩ (.cons ru .nil)) ((hs2.2 _ hpe).trans ht)
      obtain ⟨o, q, _⟩ := hi2
      exact ⟨o, q⟩
    refine ⟨.ref s.heap.objs.size, _, I2, rfl, ⟨_, x, rfl, I.hok.fresh (Nat.le_refl _), rfl, fun ys hy => by rw [I.tuple_inj hy hq]; exact hx⟩, ⟨⟨u', he2⟩, hi2⟩, fun b hb => ?_⟩
    have f0 := (hf b hb).1
    rw [upd_ne]
    · exact f0
    · rcases List.mem_cons.mp hb with rfl | hb
      · exact hpe.symm
      · rw [List.mem_singleton.mp hb]
        obtain ⟨o, q, _⟩ := hi
        exact Nat.ne_of_lt (Heap.lt_size q)
  done := by
    intro X hP hw hK hc i pins s σ H E I hf st hg
    subst hP hw hK
    obtain ⟨xs, hq, hx⟩ := hg
    obtain ⟨its, rv, p, hz⟩ := I.tuple hq
    obtain ⟨f0, f1, f2, f3, f4, f5⟩ := hf it (by simp)
    obtain ⟨⟨old, he⟩, hi⟩ := st
    have hl := rv.length
    unfold pyNext
    have hT : s.TypeIs (.ref e) "enumerate" := ⟨_, he, rfl⟩
    refine wpAny_bind (wpAny_attempt (wpAny_callSpecial?_slot (name := Str.ofString "__next__") hT F.slot_enumerate_next (wpAny_call_entry F.slot_enumerate_next hT F.entry_enumerate_next ?_ (F.args_enumerate_next_1 _))))
    change wpAny _ _ (field (.ref e) 2 >>= _) _ _ _
    refine wpAny_bind (wpAny_field he rfl (x := .ref it) rfl (wpAny_bind (tnext_end (I.ok.hd hc) hi p (by simp; omega) fun h' x eb hx' => ?_)))
    obtain ⟨o, ho, hcl⟩ := hx'
    exact wpAny_bind (wpAny_isInstance (T := "StopIteration") (b := true) ⟨o, ho, hcl⟩ isSubtype_stop (wpAny_pure ⟨rfl, I.turned (t' := s.toks) (fun b o hb e => eb b o hb e) f0 f1 f3 f4 f5⟩))
  self := fun _ _ _ _ _ st h => by
    obtain ⟨⟨old, he⟩, _⟩ := st
    exact wpAny_pyIter_enum he h
end L2

set_option maxHeartbeats 4000000
namespace L2
open PySem PySem.Spec PyProof.Rows
section
variable {X : Cx}
def iEnumT (K : PySem.W.Frag) (ta : TA) : TI := fun σ H R => ta σ H fun vs H1 => ∃ a xs, vs = [.ref a] ∧ SqT K H1 a xs ∧ R (IteT K a) H1
theorem pi_enumT {es : List Expr} {x1 : Nat} {tpos : Pos} {a : Expr} {ta : TA} {p pos : Pos} (hg : Gl X "enumerate") (hm : X.mg "enumerate" = none) (ha : PA X [a] ta) (hs : starEach [a] X.env = [(false, eval a X.env)] := by rfl) :
    PI X (.Tuple es x1 tpos) (.Call (.Name "enumerate" p) [a] [] pos) (iEnumT X.K ta) := by
  intro pins s σ H R I h
  refine Call_ (ld_blt I hg hm (by decide +kernel : bootBuiltins "enumerate" = some (.type "enumerate")) (PyProof.Rows.callWith_type1 (thn (ha pos pins s σ H _ I h) fun us s1 ⟨vs, H1, I1, r1, q1⟩ => ?_) hs rfl))
  obtain ⟨l, xs, rfl, hl, q⟩ := q1
  obtain ⟨u1, rfl, ru1⟩ := r1.one
  obtain rfl : u1 = Value.ref l := ru1
  obtain ⟨its, rv, pt, hz⟩ := I1.tuple hl
  have hlt : l < s1.heap.objs.size := by obtain ⟨o, e, _⟩ := pt; exact Heap.lt_size e
  refine enum_callT (show s1.heap.IsTuple l its.toArray from pt) fun h' he hi k => ?_
  have hne : s1.heap.objs.size + 1 ≠ s1.heap.objs.size := Nat.succ_ne_self _
  refine wpAny_pyIter_enum he ?_
  have I2 : Inv X pins σ H1 { s1 with heap := h' } := I1.kept (t' := s1.toks) k
  refine ⟨s1.heap.objs.size + 1, [s1.heap.objs.size + 1, s1.heap.objs.size], _, _, H1, rfl, I2, turn_enumT l _ _ hne (Nat.ne_of_lt (Nat.lt_succ_of_lt hlt)) (Nat.ne_of_lt hlt), ⟨⟨_, he⟩, hi⟩, fun b hb => ?_, q⟩
  have hb' : s1.heap.objs.size ≤ b := by
    rcases List.mem_cons.mp hb with rfl | hb
    · exact Nat.le_succ _
    · rw [List.mem_singleton.mp hb]; exact Nat.le_refl _
  exact I1.fpOk hb' (I1.hok.fresh hb')
theorem for_enumT {K : PySem.W.Frag} {a : Addr} {xs : List V} {g : TG} {tb : TS} {D : Ends} {σ : St} {H : Hp} (Pv : Nat → St → Hp → Prop) (h0 : Pv 0 σ H) (hl : ∀ i σ H, i ≤ xs.length → Pv i σ H → SqT K H a xs)
    (hs : ∀ i x p σ H, xs[i]? = some x → Pv i σ H → H p = none → g (.ref p) σ (upd H p (.tup [.int i, x])) fun σ2 H2 => tb { D with nx := Pv (i + 1), ct := Pv (i + 1), bk := D.nx } σ2 H2) (hd : ∀ σ H, Pv xs.length σ H → D.nx σ H) :
    ∃ W : Nat → Nat → St → Hp → Prop, (∃ m, W 0 m σ H) ∧ ∀ i m σ H, W i m σ H →
      ((IteT K a).stop i H ∧ D.nx σ H) ∨ ((IteT K a).go i H ∧ ∃ N : St → Hp → Prop, (∀ σ' H', N σ' H' → ∃ m', m' < m ∧ W (i + 1) m' σ' H') ∧ ∀ x H', (IteT K a).yld i H x H' → g x σ H' fun σ2 H2 => tb { D with nx := N, ct := N, bk := D.nx } σ2 H2) := by
  refine ⟨fun i m σ H => m = xs.length - i ∧ i ≤ xs.length ∧ Pv i σ H, ⟨xs.length, by simp, Nat.zero_le _, h0⟩, ?_⟩
  rintro i m σ H ⟨rfl, hi, p⟩
  have q := hl i σ H hi p
  by_cases hlt : i < xs.length
  · refine .inr ⟨⟨xs, xs[i], q, by simp [hlt]⟩, Pv (i + 1), fun σ' H' p' => ⟨xs.length - (i + 1), by omega, rfl, hlt, p'⟩, fun x H' y => ?_⟩
    obtain ⟨pp, v, rfl, hn, rfl, hv⟩ := y
    exact hs i v pp σ _ (hv xs q) p hn
  · have e : i = xs.length := by omega
    subst e
    exact .inl ⟨⟨xs, q, Nat.le_refl _⟩, hd σ H p⟩
theorem comp_enumT {K : PySem.W.Frag} {a D : Addr} {xs : List V} {g : TG} {tt : TT} {te : TE} {fin : Hp → Prop} {σB : St} {H0 : Hp} (Pv : Nat → List V → St → Hp → Prop) (h0 : Pv 0 [] σB H0)
    (hl : ∀ i ys σ H, i ≤ xs.length → Pv i ys σ H → SqT K H a xs)
    (hs : ∀ i x p ys σ H (Kt : V → St → Hp → Prop) (Kf : St → Hp → Prop), xs[i]? = some x → Pv i ys σ H → H p = none →
      (∀ v σ2 H4, H4 D = some (.lst ys) → ys.length < sizeLine → Pv (i + 1) (ys ++ [v]) σ2 (upd H4 D (.lst (ys ++ [v]))) → Kt v σ2 H4) → (∀ σ2 H3, Pv (i + 1) ys σ2 H3 → Kf σ2 H3) →
      g (.ref p) σ (upd H p (.tup [.int i, x])) fun σ2 H2 => tt σ2 H2 fun b H3 => if b = true then te σ2 H3 fun v H4 => Kt v σ2 H4 else Kf σ2 H3)
    (hd : ∀ ys σ H, Pv xs.length ys σ H → fin H) : CompW (IteT K a) g tt te D fin σB H0 := by
  refine ⟨fun i m σ H => m = xs.length - i ∧ i ≤ xs.length ∧ ∃ ys, Pv i ys σ H, ⟨xs.length, by simp, Nat.zero_le _, [], h0⟩, ?_⟩
  rintro i m σ H ⟨rfl, hi, ys, p⟩
  have q := hl i ys σ H hi p
  by_cases hlt : i < xs.length
  · refine .inr ⟨⟨xs, xs[i], q, by simp [hlt]⟩, ?_⟩
    rintro x H' ⟨pp, v, rfl, hn, rfl, hv⟩
    exact hs i v pp ys σ _ (fun v σ2 H4 => ∃ ys, H4 D = some (.lst ys) ∧ ys.length < sizeLine ∧ ∃ m', m' < xs.length - i ∧ m' = xs.length - (i + 1) ∧ i + 1 ≤ xs.length ∧ ∃ ys', Pv (i + 1) ys' σ2 (upd H4 D (.lst (ys ++ [v]))))
      (fun σ2 H3 => ∃ m', m' < xs.length - i ∧ m' = xs.length - (i + 1) ∧ i + 1 ≤ xs.length ∧ ∃ ys', Pv (i + 1) ys' σ2 H3) (hv xs q) p hn
      (fun v σ2 H4 z1 z2 z3 => ⟨ys, z1, z2, _, by omega, rfl, hlt, _, z3⟩) (fun σ2 H3 z => ⟨_, by omega, rfl, hlt, _, z⟩)
  · have e : i = xs.length := by omega
    subst e
    exact .inl ⟨⟨xs, q, Nat.le_refl _⟩, hd ys σ H p⟩
end
end L2

set_option maxHeartbeats 4000000
namespace L2
open PySem PySem.Spec PyProof.Rows
/-! ### for over a dict: it is known to the object from there on -/
theorem Inv.freeze {X : Cx} {pins : List (Addr × Obj)} {σ : St} {H : Hp} {s : Shared} {d : Addr} {u : HO} {o : Obj} (I : Inv X pins σ H s) (hd : H d = some u) (ho : s.heap.get? d = some o) (hu : (∀ xs, u ≠ .tup xs) ∧ (∀ o v, u ≠ .frz o v) ∧ (∀ ps, u ≠ .tbl ps) ∧ (∀ x, u ≠ .own x)) :
    Inv X pins σ (upd H d (.frz o u)) s := by
  have ok : HOk X.prog X.w (upd H d (.frz o u)) s.heap := fun b v e => by
    have st : ∀ {b v}, ObjOk X.prog X.w H s.heap b v → ObjOk X.prog X.w (upd H d (.frz o u)) s.heap b v := fun {b v} x =>
      x.stay (fun _ _ _ q => q) (fun c q => by rw [upd_ne (fun z => by rw [z, hd] at q; exact hu.2.2.2 _ (Option.some.inj q))]; exact q) fun c xs q => by rw [upd_ne (fun z => by rw [z, hd] at q; exact hu.1 _ (Option.some.inj q))]; exact q
    by_cases hb : b = d
    · subst hb
      rw [upd_same] at e; cases e
      exact ⟨ho, st (I.hok b u hd)⟩
    · rw [upd_ne hb] at e
      exact st (I.hok b v e)
  have r := I.step (h' := s.heap) (H' := upd H d (.frz o u)) (g' := s.gens) (t' := s.toks) (d' := s.drawn) (ch := []) (fun _ z => absurd z (by simp)) (fun b o' _ _ _ q _ => q) (fun b o' _ _ _ q _ => ⟨o'.slots, q⟩)
    (fun b o' _ q n => by rw [upd_ne (fun z => by rw [z, hd] at n; cases n)]; exact n) (fun b o' _ q => ⟨o', q⟩)
    (fun b xs q => by rw [upd_ne (fun z => by rw [z, hd] at q; exact hu.1 _ (Option.some.inj q))]; exact q) (fun b o' v q => by rw [upd_ne (fun z => by rw [z, hd] at q; exact hu.2.1 _ _ (Option.some.inj q))]; exact q)
    (fun b ps q => ⟨#[], by rw [upd_ne (fun z => by rw [z, hd] at q; exact hu.2.2.1 _ (Option.some.inj q)), q]; simp⟩) (fun m hm => hm) ok I.bare
  exact r
def Itd (d : Addr) (o : Obj) (kvs : List (Key × V)) : It :=
  ⟨fun i H => H d = some (.frz o (.dK kvs)) ∧ i < kvs.length, fun i H x H' => H' = H ∧ ∃ k v, kvs[i]? = some (k, v) ∧ x = kV k, fun i H => H d = some (.frz o (.dK kvs)) ∧ kvs.length ≤ i⟩
theorem key_rel {P : Program} {w : World} {k : Key} {u : Value} (h : (mixKind P w).is k u = true) : RelV (kV k) u := by
  cases k with
  | inl i =>
    have h' : Value.isInt i u = true := h
    cases u <;> simp [Value.isInt] at h' <;> try exact h'.elim
    all_goals first | (subst h'; exact ⟨_, rfl⟩) | (rw [← h']; exact ⟨_, rfl⟩) | (rw [h']; exact ⟨_, rfl⟩)
  | inr x =>
    have h' : Value.isStrOf x u = true := h
    cases u <;> simp [Value.isStrOf] at h' <;> try exact h'.elim
    all_goals first | (subst h'; exact ⟨_, rfl⟩) | (rw [← h']; exact ⟨_, rfl⟩) | (rw [h']; exact ⟨_, rfl⟩)
theorem turn_dict {P : Program} {w : World} {K : PySem.W.Frag} {tg : Expr} (d it : Addr) (o : Obj) (kvs : List (Key × V)) (es : Array DictEntry) (ep : Nat) (hdat : o.data = .dict es ep) :
    Turn P w K tg (Itd d o kvs) [it] it (fun i h => h.IsKeyIter it d i kvs.length ep) where
  mem := by simp
  obj := fun i h st b hb => by
    have e : b = it := by simpa using hb
    subst e
    obtain ⟨o, e, c, d⟩ := st
    exact ⟨o, e, fun v z => by rw [d] at z; cases z⟩
  keep := fun i h h' st k => st.at fun o e => k it (by simp) o e
  item := by
    intro X hP hw hK hc i pins s σ H E I hf st hg
    subst hP hw hK
    obtain ⟨hd, hi⟩ := hg
    obtain ⟨ho, z, hS, vs, kv, ob, es', ep', g1, g2, g3, g4, g5, g6⟩ := I.hok d _ hd
    rw [ho] at g1; cases g1
    rw [hdat] at g3; cases g3
    have hm : s.heap.DictAt (mixKind X.prog X.w) d vs ep := ⟨o, es, ho, g2, hdat, g4, g5, g6⟩
    have hlen := kv.length
    obtain ⟨f0, f1, f2, f3, f4, f5⟩ := hf it (by simp)
    have hi' : i < vs.length := by omega
    obtain ⟨⟨k, v⟩, hv⟩ : ∃ p, vs[i]? = some p := ⟨_, List.getElem?_eq_getElem hi'⟩
    refine wpAny_pyNext_dict_item (by rw [← hlen]; exact st) hm hv fun key h' hk st' sb => ?_
    have I1 : Inv X pins σ H { s with heap := h' } := I.turned (t' := s.toks) (fun b o hb e => (sb.2 b hb).trans e) f0 f1 f3 f4 f5
    obtain ⟨oi, ei, ci, di⟩ := id st'
    have hk1 : (kvs.map (·.1))[i]? = some k := by rw [kv.keys, List.getElem?_map, hv]; rfl
    obtain ⟨p, hp, hpk⟩ : ∃ p, kvs[i]? = some p ∧ p.1 = k := by
      rw [List.getElem?_map] at hk1
      cases q : kvs[i]? with
      | none => rw [q] at hk1; cases hk1
      | some p => rw [q] at hk1; exact ⟨p, rfl, Option.some.inj hk1⟩
    refine ⟨key, rfl, go_of (s := { s with heap := h' }) ei ci di (by decide) ⟨kV k, H, I1, key_rel hk, ⟨rfl, k, p.2, by rw [hp, ← hpk], rfl⟩, by rw [hlen]; exact st', fun b hb => (hf b hb).1⟩⟩
  done := by
    intro X hP hw hK hc i pins s σ H E I hf st hg
    subst hP hw hK
    obtain ⟨hd, hi⟩ := hg
    obtain ⟨ho, z, hS, vs, kv, ob, es', ep', g1, g2, g3, g4, g5, g6⟩ := I.hok d _ hd
    rw [ho] at g1; cases g1
    rw [hdat] at g3; cases g3
    have hm : s.heap.DictAt (mixKind X.prog X.w) d vs ep := ⟨o, es, ho, g2, hdat, g4, g5, g6⟩
    have hlen := kv.length
    obtain ⟨f0, f1, f2, f3, f4, f5⟩ := hf it (by simp)
    exact wpAny_pyNext_dict_end (I.ok.hd hc) (by rw [← hlen]; exact st) hm (List.getElem?_eq_none (by omega)) fun h' eb => ⟨rfl, I.turned (t' := s.toks) (fun b o hb e => eb b o hb e) f0 f1 f3 f4 f5⟩
  self := fun _ _ _ _ _ st h => wpAny_pyIter_keyiter st h
section
variable {X : Cx} {tg : Expr}
def iDict (tl : TE) : TI := fun σ H R => tl σ H fun x H1 => ∃ d kvs, x = .ref d ∧ H1 d = some (.dK kvs) ∧ ∀ o, R (Itd d o kvs) (upd H1 d (.frz o (.dK kvs)))
theorem pi_dict {l : Expr} {tl : TE} (hl : PE X l tl) : PI X tg l (iDict tl) := by
  intro pins s σ H R I h
  refine thn (hl pins s σ H _ I h) fun v s1 ⟨x, H1, I1, r1, q1⟩ => ?_
  obtain ⟨d, kvs, e, hd, q⟩ := q1
  subst e
  cases r1
  obtain ⟨z, hS, vs, kv, o, es, ep, g1, g2, g3, g4, g5, g6⟩ := dk_of I1.hok hd
  have hm : s1.heap.DictAt (mixKind X.prog X.w) d vs ep := ⟨o, es, g1, g2, g3, g4, g5, g6⟩
  have I2 := I1.freeze hd g1 ⟨(fun _ z => by cases z), (fun _ _ z => by cases z), (fun _ z => by cases z), (fun _ z => by cases z)⟩
  refine wpAny_pyIter_dict hS hm ?_
  refine ⟨s1.heap.objs.size, [s1.heap.objs.size], _, _, _, rfl, I2.kept (t' := s1.toks) fun b o e => Heap.get?_push_of_some _ e, turn_dict d _ o kvs es ep g3, ⟨_, Heap.get?_push_size _ rfl, rfl, by rw [kv.length]; rfl⟩, fun b hb => ?_, q o⟩
  have e : b = s1.heap.objs.size := by simpa using hb
  subst e
  exact I2.fpOk (Nat.le_refl _) (I2.hok.fresh (Nat.le_refl _))
end
end L2

set_option maxHeartbeats 4000000
namespace L2
open PySem PySem.Spec PyProof.Rows
/-! ### a list has no keys -/
theorem lk_list_keys : typeLookup (.type "list") "keys" = pure none := by rw [typeLookup_type, builtinLookup_eq_fast]; kernel_rfl
theorem lk_list_getattr : typeLookup (.type "list") "__getattr__" = pure none := by rw [typeLookup_type, builtinLookup_eq_fast]; kernel_rfl
theorem miss_list_keys (l : Addr) (u : Tok) (items : Array Value) (n : Nat) :
    Meets (Builtin.«object.__getattribute__» ⟨[.ref l, .str "keys" u], []⟩) (fun A R s => s.heap.get? l = some { cls := .type "list", data := .seq items n } ∧ raisesAttr (.ref l) "keys" A R s) :=
  Meets.of_wp fun prog w A R s hs => by
    obtain ⟨hp, g, d, tk, os⟩ := s
    obtain ⟨hl, hs⟩ := hs
    have hT : (⟨hp, g, d, tk, os⟩ : Shared).TypeIs (.ref l) "list" := ⟨_, hl, rfl⟩
    have f1 := lk_list_keys
    unfold Builtin.«object.__getattribute__»
    repeat (any_goals (first | assumption | wp_step))
    exact wpAny_raiseAttrError hs.1 hs.2 (attrMsg_fits (by decide +kernel) (by decide +kernel))
theorem noKeys {prog : Program} {w : World} {A : Around} {E : Value → Shared → Prop} {s : Shared} {l : Addr} {items : Array Value} {n : Nat} {Q : Option Value → Shared → Prop} (hA : A.handled = none) (hl : s.heap.get? l = some { cls := .type "list", data := .seq items n })
    (h : ∀ h' tk, (∀ b o, s.heap.get? b = some o → h'.get? b = some o) → Q none { s with heap := h', toks := tk }) : wpAny (model prog w) A (getAttr? (.ref l) "keys") Q E s := by
  obtain ⟨hp, g, d, tk, os⟩ := s
  have hT : ∀ tk, (⟨hp, g, d, tk, os⟩ : Shared).TypeIs (.ref l) "list" := fun _ => ⟨_, hl, rfl⟩
  have f1 := sub_AttributeError
  have f3 := F.slot_list_getattribute.lookup
  have f4 := F.slot_list_getattribute.bind (.ref l)
  have f5 := lk_list_getattr
  unfold getAttr? getAttrBy?
  refine wpAny_bind (wpAny_mkText ?_)
  refine wpAny_bind (wpAny_attempt ?_)
  unfold getAttrBy
  repeat (any_goals (first | assumption | ((with_reducible show wpAny _ _ (call (Value.builtin "list.__getattribute__") _ _) _ _ _); refine call_meets F.slot_list_getattribute (hT _) F.entry_list_ga (F.args_list_getattribute_2 _ _) (miss_list_keys l _ items n) ⟨hl, hA, fun h' tk' e hx => ?_⟩) | wp_step))
  obtain ⟨t', u', he⟩ := hx.there
  show wpAny _ _ (getattributeRaised _ _ _ _ _ _ _) _ _ _
  unfold getattributeRaised
  repeat (any_goals (first | assumption | wp_step))
  exact h _ _ hx.keeps
end L2

set_option maxHeartbeats 4000000
namespace L2
open PySem PySem.Spec PyProof.Rows
/-! ### dict(l), l a list of pairs whose keys are ints or texts -/
theorem entry_dloop : entryFor table "dict.update.loop" = some Builtin.«dict.update.loop» := entryFor_of_tree (by kernel_rfl)
theorem plain_dloop : plainId "dict.update.loop" = true := by decide +kernel
def TupsIn (P : Program) (w : World) (h : Heap) (vs : List Value) (ps : List (Key × Value)) : Prop := vs.length = ps.length ∧ ∀ (i : Nat) (v : Value), vs[i]? = some v → ∃ (a : Addr) (o : Obj) (n : Nat) (key : Value) (k : Key) (x : Value), v = Value.ref a ∧ h.get? a = some o ∧ o.cls = .type "tuple" ∧ o.data = .seq #[key, x] n ∧ (mixKind P w).is k key = true ∧ ps[i]? = some (k, x)
theorem TupsIn.keeps {P : Program} {w : World} {h h' : Heap} {vs : List Value} {ps : List (Key × Value)} (x : TupsIn P w h vs ps) (k : ∀ b o, (∃ xs n, o.data = .seq xs n) → h.get? b = some o → h'.get? b = some o) : TupsIn P w h' vs ps :=
  ⟨x.1, fun i v hv => let ⟨a, o, n, key, kk, y, e1, e2, e3, e4, e5, e6⟩ := x.2 i v hv; ⟨a, o, n, key, kk, y, e1, k a o ⟨_, _, e4⟩ e2, e3, e4, e5, e6⟩⟩
section
variable {prog : Program} {w : World} {A : Around} {E : Value → Shared → Prop} {s : Shared} {R : Result → Shared → Prop} {l d Ia : Addr}
theorem dict_loop {vs : List Value} {ps : List (Key × Value)} (hh : A.handled = none) (hlD : l ≠ d) (hlI : l ≠ Ia) (hdI : d ≠ Ia) :
    ∀ (k i : Nat) (j : Int) (t : Tok) (s : Shared) (kvs : List (Key × Value)), vs.length - i = k → i ≤ vs.length → s.heap.IsListIter Ia l i → s.heap.IsList l vs.toArray → TupsIn prog w s.heap vs ps → s.heap.DictOf (mixKind prog w) d kvs → kvs.length + k ≤ 4096 →
      (∀ h' tk, (∀ b o, b ≠ d → b ≠ Ia → s.heap.get? b = some o → h'.get? b = some o) → h'.DictOf (mixKind prog w) d ((ps.drop i).foldl (fun m p => stored m p.1 p.2) kvs) → R (.ok (.ret .none)) { s with heap := h', toks := tk }) →
      codeAny (model prog w) A (.builtin "dict.update.loop" ⟨[.ref d, .ref Ia, .int j t, .none], []⟩) R s := by
  intro k
  induction k with
  | zero =>
    intro i j t s kvs hk hi hit hl hp hD hz hR
    refine codeAny_builtin entry_dloop ?_
    rw [Around.under_plainId plain_dloop _]
    show wpAny _ A.in1 (pyNext (.ref Ia) >>= _) _ _ s
    refine wpAny_bind (wpAny_pyNext_list_end (show A.in1.handled = none from hh) hit hl (by simp; omega) fun h' eb => ?_)
    have hd : ps.drop i = [] := by rw [List.drop_eq_nil_iff]; have := hp.1; omega
    have hR' := hR h' s.toks (fun b o hb hbI e => eb b o hbI e)
    rw [hd] at hR'
    refine wpAny_bind (wpAny_pure (wpAny_pure (hR' ?_)))
    obtain ⟨o, es, ep, q1, q2⟩ := hD
    exact ⟨o, es, ep, eb d o hdI q1, q2⟩
  | succ k ih =>
    intro i j t s kvs hk hi hit hl hp hD hz hR
    have hlt : i < vs.length := by omega
    refine codeAny_builtin entry_dloop ?_
    rw [Around.under_plainId plain_dloop _]
    show wpAny _ A.in1 (pyNext (.ref Ia) >>= _) _ _ s
    have hv : vs[i]? = some vs[i] := List.getElem?_eq_getElem hlt
    refine wpAny_bind (wpAny_pyNext_list_item hit hl (x := vs[i]) (by simpa using hv) fun h1 hit1 sb1 => ?_)
    obtain ⟨a, o, n, key, kk, x, ea, eo, ec, ed, ek, ep⟩ := hp.2 i _ hv
    rw [ea]
    have neI : ∀ b ob, (∃ xs n, ob.data = .seq xs n) → s.heap.get? b = some ob → b ≠ Ia := fun b ob ⟨xs, m, z⟩ e z' => by
      obtain ⟨oi, e1, _, d1⟩ := hit
      rw [z', e1] at e; cases e
      rw [d1] at z; cases z
    have hp1 : TupsIn prog w h1 vs ps := hp.keeps fun b ob hb e => (sb1.2 b (neI b ob hb e)).trans e
    have hD1 : h1.DictOf (mixKind prog w) d kvs := hD.sameBut sb1 hdI
    have hl1 : h1.IsList l vs.toArray := by
      obtain ⟨ol, q1, q2⟩ := hl
      exact ⟨ol, (sb1.2 l hlI).trans q1, q2⟩
    have eo1 : h1.get? a = some o := (sb1.2 a (neI a o ⟨_, _, ed⟩ eo)).trans eo
    have neD : ∀ b ob, (∃ xs n, ob.data = .seq xs n) → h1.get? b = some ob → b ≠ d := fun b ob ⟨xs, m, z⟩ e z' => by
      obtain ⟨oS, es, ep', q1, _, q4, _⟩ := hD1
      rw [z', q1] at e; cases e
      rw [q4] at z; cases z
    have hT : Shared.TypeIs { s with heap := h1 } (.ref a) "tuple" := ⟨o, eo1, ec⟩
    refine wpAny_bind (wpAny_holding ?_)
    show wpAny _ A.in1 (Sem.tryCatch (Builtin.Dict.pairItems (.ref a)) _ >>= _) _ _ _
    refine wpAny_bind (wpAny_tryCatch ?_)
    unfold Builtin.Dict.pairItems
    refine wpAny_bind (wpAny_typeOf hT ?_)
    rw [if_pos (by decide)]
    refine wpAny_bind (wpAny_seqItems eo1 ed (wpAny_pure ?_))
    show wpAny _ A.in1 (holding [key, x] (dictSet d key x)) _ _ _
    refine wpAny_holding (wpAny_dictSet_pairs (s := { s with heap := h1 }) ek hD1 (fun h2 hD2 sb2 => ?_) (Nat.le_trans (by omega : kvs.length ≤ 4096) (by decide)))
    refine wpAny_pure ⟨plainId_quiet plain_dloop _, ?_⟩
    have hi2 : i < ps.length := by have := hp.1; omega
    have hdr : ps.drop i = (kk, x) :: ps.drop (i + 1) := by
      rw [List.drop_eq_getElem_cons hi2]
      have : ps[i]? = some ps[i] := List.getElem?_eq_getElem hi2
      rw [this] at ep
      rw [Option.some.inj ep]
    have hlen : (stored kvs kk x).length ≤ kvs.length + 1 := by
      unfold stored
      split
      · rw [List.length_map]; omega
      · rw [List.length_append]; simp
    refine ih (i + 1) _ _ { s with heap := h2, toks := s.toks + 1 } (stored kvs kk x) (by omega) hlt ?_ ?_ (hp1.keeps fun b ob hb e => (sb2.2 b (neD b ob hb e)).trans e) hD2 (by omega) fun h3 tk3 k3 D3 => ?_
    · obtain ⟨oi, q1, q2⟩ := hit1
      exact ⟨oi, (sb2.2 Ia (Ne.symm hdI)).trans q1, q2⟩
    · obtain ⟨ol, q1, q2⟩ := hl1
      exact ⟨ol, (sb2.2 l hlD).trans q1, q2⟩
    · refine hR h3 tk3 (fun b ob hb hbI e => k3 b ob hb hbI ((sb2.2 b hb).trans ((sb1.2 b hbI).trans e))) ?_
      rw [hdr]
      exact D3
end
end L2

set_option maxHeartbeats 4000000
namespace L2
open PySem PySem.Spec PyProof.Rows
section
variable {prog : Program} {w : World} {A : Around} {E : Value → Shared → Prop} {s : Shared} {l : Addr}
theorem dict_call {vs : List Value} {n : Nat} {ps : List (Key × Value)} {Q : Value → Shared → Prop} (hh : A.handled = none) (hl : s.heap.get? l = some { cls := .type "list", data := .seq vs.toArray n }) (hp : TupsIn prog w s.heap vs ps) (hz : vs.length ≤ 4096)
    (h : ∀ h' tk, h'.DictOf (mixKind prog w) s.heap.objs.size (ps.foldl (fun m p => stored m p.1 p.2) []) → (∀ b o, s.heap.get? b = some o → h'.get? b = some o) → Q (.ref s.heap.objs.size) { s with heap := h', toks := tk }) :
    wpAny (model prog w) A (call (.type "dict") [.ref l]) Q E s := by
  refine callType_codes (Q₁ := fun obj s₁ => obj = .ref s.heap.objs.size ∧ s₁ = { s with heap := s.heap.push { cls := .type "dict", data := .dict #[] } }) F.kt_called_dict (F.kt_typeCall_dict_1 _) F.entry_dict_init (kt_code_dict_new _ ⟨rfl, rfl⟩) ?_
  rintro obj s₁ ⟨rfl, rfl⟩
  have hnew : (s.heap.push { cls := .type "dict", data := .dict #[] }).DictOf (mixKind prog w) s.heap.objs.size [] := Heap.DictOf.new s.heap
  have hsz : (s.heap.push { cls := .type "dict", data := .dict #[] }).objs.size = s.heap.objs.size + 1 := Heap.size_push ..
  have up : ∀ b o, s.heap.get? b = some o → (s.heap.push { cls := .type "dict", data := .dict #[] }).get? b = some o := fun b o e => Heap.get?_push_of_some _ e
  have hlt : l < s.heap.objs.size := Heap.lt_size hl
  refine ⟨hnew.typeIs, F.args_dict_init_2 _ _, ?_⟩
  generalize (s.heap.push { cls := .type "dict", data := .dict #[] }) = hD at *
  have hT : Shared.TypeIs { s with heap := hD } (.ref l) "list" := ⟨_, up _ _ hl, rfl⟩
  unfold Builtin.«dict.__init__»
  refine wpAny_bind ?_
  unfold Builtin.Dict.selfAndRest
  refine wpAny_bind (wpAny_notOrdered_dict hnew.typeIs (wpAny_pure ?_))
  show wpAny _ _ (Builtin.Dict.updateFrom "dict.__init__" s.heap.objs.size (.ref l) [] .none) _ _ _
  unfold Builtin.Dict.updateFrom
  refine wpAny_bind (wpAny_typeOf hT ?_)
  rw [if_pos (by decide)]
  refine wpAny_bind (noKeys (s := { s with heap := hD }) (show A.in1.handled = none from hh) (up _ _ hl) fun h1 tk1 k1 => ?_)
  have hl1 : h1.get? l = some { cls := .type "list", data := .seq vs.toArray n } := k1 _ _ (up _ _ hl)
  have hL1 : h1.IsList l vs.toArray := ⟨_, hl1, rfl, n, rfl⟩
  rw [if_pos (by rfl)]
  refine wpAny_bind (wpAny_rule ?_)
  refine wpAny_bind (wpAny_pyIter_list (s := { s with heap := h1, toks := tk1 }) hL1 ?_)
  have hDI : s.heap.objs.size < h1.objs.size := by
    obtain ⟨o, es, ep, q1, q2⟩ := hnew
    exact Heap.lt_size (k1 _ _ q1)
  refine wpAny_pure ⟨plainId_quiet plain_dloop _, ?_⟩
  refine dict_loop (l := l) (vs := vs) (ps := ps) (Ia := h1.objs.size) (show A.in1.handled = none from hh) (Nat.ne_of_lt hlt) (Nat.ne_of_lt (Nat.lt_trans hlt hDI)) (Nat.ne_of_lt hDI) vs.length 0 0 0 _ [] (by simp) (Nat.zero_le _) ⟨_, Heap.get?_push_size _ rfl, rfl, rfl⟩ ?_ ?_ ?_ (by simpa using hz) fun h2 tk2 k2 D2 => ?_
  · exact ⟨_, Heap.get?_push_of_some _ hl1, rfl, n, rfl⟩
  · exact hp.keeps fun b o _ e => Heap.get?_push_of_some _ (k1 _ _ (up _ _ e))
  · obtain ⟨o, es, ep, q1, q2⟩ := hnew
    exact ⟨o, es, ep, Heap.get?_push_of_some _ (k1 _ _ q1), q2⟩
  · refine ⟨rfl, h h2 tk2 D2 fun b o e => k2 b o (Nat.ne_of_lt (Heap.lt_size e)) (Nat.ne_of_lt (Nat.lt_trans (Heap.lt_size e) hDI)) (Heap.get?_push_of_some _ (k1 _ _ (up _ _ e)))⟩
end
end L2

set_option maxHeartbeats 4000000
namespace L2
open PySem PySem.Spec PyProof.Rows
def dictRun (m : List (Key × V)) (ps : List (Key × V)) : List (Key × V) := ps.foldl (fun m p => putK m p.1 p.2) m
theorem KV.fold : ∀ {ps : List (Key × V)} {us : List (Key × Value)} {m : List (Key × V)} {m' : List (Key × Value)}, KV ps us → KV m m' → KV (dictRun m ps) (us.foldl (fun m p => stored m p.1 p.2) m')
  | [], _, _, _, .nil, r => r
  | (k, v) :: ps, _, m, m', .cons (b := (k', u)) q rr, r => by
    obtain ⟨rfl, qv⟩ : k = k' ∧ RelV v u := q
    rename_i us
    have := KV.fold (ps := ps) (us := us) rr (r.put k qv)
    exact this
theorem dictRun_le : ∀ (ps m : List (Key × V)), (dictRun m ps).length ≤ m.length + ps.length
  | [], m => by show m.length ≤ _; simp
  | p :: ps, m => by
    have h1 := dictRun_le ps (putK m p.1 p.2)
    have h2 := length_putK m p.1 p.2
    show (dictRun (putK m p.1 p.2) ps).length ≤ _
    rw [List.length_cons]; omega
theorem tups_of {P : Program} {w : World} {H : Hp} {h : Heap} (ok : HOk P w H h) : ∀ (ts : List Addr) (ps : List (Key × V)), ts.length = ps.length → (∀ i, i < ps.length → ∃ k v, ps[i]? = some (k, v) ∧ H (ts.getD i 0) = some (.tup [kV k, v])) →
    ∃ us : List (Key × Value), KV ps us ∧ TupsIn P w h (ts.map Value.ref) us
  | [], [], _, _ => ⟨[], .nil, rfl, fun i v hv => by simp at hv⟩
  | [], _ :: _, e, _ => by simp at e
  | _ :: _, [], e, _ => by simp at e
  | t :: ts, (k, v) :: ps, e, hs => by
    obtain ⟨us, r, T⟩ := tups_of ok ts ps (by simpa using e) fun i hi => by
      obtain ⟨k', v', h1, h2⟩ := hs (i + 1) (by simp; omega)
      exact ⟨k', v', by simpa using h1, by simpa using h2⟩
    obtain ⟨k0, v0, g1, g2⟩ := hs 0 (by simp)
    have g1' : (k, v) = (k0, v0) := by simpa using g1
    cases g1'
    have g2' : H t = some (.tup [kV k, v]) := by simpa using g2
    obtain ⟨_, its, rv, o, q1, q2, n, q3⟩ := ok t _ g2'
    cases rv with
    | cons ra rr =>
      cases rr with
      | cons rb rr2 =>
        cases rr2
        rename_i ka vb
        refine ⟨(k, vb) :: us, .cons ⟨rfl, rb⟩ r, by simp [T.1], fun i x hx => ?_⟩
        cases i with
        | zero =>
          have hx' : Value.ref t = x := by simpa using hx
          exact ⟨t, o, n, ka, k, vb, hx'.symm, q1, q2, q3, kV_is ra, rfl⟩
        | succ i => exact T.2 i x (by simpa using hx)
section
variable {X : Cx}
def rDictP : List V → Hp → VK → Prop := fun xs H Q => ∃ (l : Addr) (ts : List Addr) (ps : List (Key × V)), xs = [.ref l] ∧ H l = some (.lst (ts.map V.ref)) ∧ ts.length = ps.length ∧ (∀ i, i < ps.length → ∃ k v, ps[i]? = some (k, v) ∧ H (ts.getD i 0) = some (.tup [kV k, v])) ∧ ps.length ≤ 4096 ∧
  ∀ D, H D = none → Q (.ref D) (upd H D (.dK (dictRun [] ps)))
theorem call_dictP (hc : X.calm = true) : CallR X (.type "dict") rDictP := by
  intro pins s σ H xs us Q I r h
  obtain ⟨l, ts, ps, rfl, hl, hlen, ht, hz, q⟩ := h
  obtain ⟨u1, rfl, r1⟩ := r.one
  obtain rfl : u1 = Value.ref l := r1
  obtain ⟨z, its, n, rv, _, e⟩ := I.lstM hl
  have hits : its = ts.map Value.ref := refs_of rv
  subst hits
  obtain ⟨vs, kv, T⟩ := tups_of I.hok ts ps hlen ht
  refine dict_call (I.ok.hd hc) e T (by rw [List.length_map, hlen]; exact hz) fun h' tk D k => ?_
  have hs : sysModules < s.heap.objs.size := Nat.lt_trans (by decide : sysModules < mainGlobals) (I.mod.glob.keeps I.bk).lt
  have I2 : Inv X pins σ (upd H s.heap.objs.size (.dK (dictRun [] ps))) { s with heap := h', toks := tk } := by
    refine I.laidN (t' := tk) k (Heap.get?_none_of_le (Nat.le_refl _)) ⟨?_, ?_, _, KV.fold kv .nil, D⟩
    · have := dictRun_le ps []
      exact Nat.le_trans this (Nat.le_trans (by simpa using hz) (by decide : 4096 ≤ sizeLine))
    · rw [beq_eq_false_iff_ne]
      exact Nat.ne_of_gt hs
  exact ⟨.ref s.heap.objs.size, _, I2, rfl, q _ (I.hok.fresh (Nat.le_refl _))⟩
theorem for_dict {d : Addr} {o : Obj} {kvs : List (Key × V)} {g : TG} {tb : TS} {D : Ends} {σ : St} {H : Hp} (Pv : Nat → St → Hp → Prop) (h0 : Pv 0 σ H) (hl : ∀ i σ H, i ≤ kvs.length → Pv i σ H → H d = some (.frz o (.dK kvs)))
    (hs : ∀ i k v σ H, kvs[i]? = some (k, v) → Pv i σ H → g (kV k) σ H fun σ2 H2 => tb { D with nx := Pv (i + 1), ct := Pv (i + 1), bk := D.nx } σ2 H2) (hd : ∀ σ H, Pv kvs.length σ H → D.nx σ H) :
    ∃ W : Nat → Nat → St → Hp → Prop, (∃ m, W 0 m σ H) ∧ ∀ i m σ H, W i m σ H →
      ((Itd d o kvs).stop i H ∧ D.nx σ H) ∨ ((Itd d o kvs).go i H ∧ ∃ N : St → Hp → Prop, (∀ σ' H', N σ' H' → ∃ m', m' < m ∧ W (i + 1) m' σ' H') ∧ ∀ x H', (Itd d o kvs).yld i H x H' → g x σ H' fun σ2 H2 => tb { D with nx := N, ct := N, bk := D.nx } σ2 H2) := by
  refine ⟨fun i m σ H => m = kvs.length - i ∧ i ≤ kvs.length ∧ Pv i σ H, ⟨kvs.length, by simp, Nat.zero_le _, h0⟩, ?_⟩
  rintro i m σ H ⟨rfl, hi, p⟩
  have q := hl i σ H hi p
  by_cases hlt : i < kvs.length
  · refine .inr ⟨⟨q, hlt⟩, Pv (i + 1), fun σ' H' p' => ⟨kvs.length - (i + 1), by omega, rfl, hlt, p'⟩, fun x H' y => ?_⟩
    obtain ⟨rfl, k, v, hk, rfl⟩ := y
    exact hs i k v σ _ hk p
  · have e : i = kvs.length := by omega
    subst e
    exact .inl ⟨⟨q, Nat.le_refl _⟩, hd σ H p⟩
end
end L2

set_option maxHeartbeats 4000000
namespace L2
open PySem PySem.Spec PyProof.Rows
section
variable {X : Cx}
theorem call_allB (hc : X.calm = true) : CallR X (.builtin "all") (fun xs H Q => ∃ (p : Addr) (bs : List Bool), xs = [.ref p] ∧ SqL X.K H p (bs.map V.bl) ∧ Q (.bl (bs.all id)) H) := by
  intro pins s σ H xs us Q I r h
  obtain ⟨p, bs, rfl, hp, q⟩ := h
  obtain ⟨u1, rfl, r1⟩ := r.one
  obtain rfl : u1 = Value.ref p := r1
  obtain ⟨its, rv, pl, hz⟩ := I.list hp
  have hits : its = bs.map Value.bool := by
    have go : ∀ (bs : List Bool) (its : List Value), Vals (bs.map V.bl) its → its = bs.map Value.bool := by
      intro bs
      induction bs with
      | nil => intro its r; cases r; rfl
      | cons b bs ih =>
        intro its r
        cases r with
        | cons r rr =>
          obtain rfl := (show _ = Value.bool b from r)
          rw [ih _ rr]; rfl
    exact go bs its rv
  subst hits
  obtain ⟨ob, hob, _⟩ := id pl.isList
  have hlt : p < s.heap.objs.size := Heap.lt_size hob
  refine call_all_walk (wpAny_pyIter_list pl.isList ⟨s.heap.objs.size, _, _, _, _, _, fun i => bs.getD i true, rfl, Walks.list (show X.A.in1.handled = none from I.ok.hd hc) _ p (Nat.ne_of_lt hlt) _, ⟨⟨_, Heap.get?_push_size _ rfl, rfl, rfl⟩, pl.isList.push _⟩, fun i v s1 Q' E' hv hq => ?_, fun h' tk k => ?_⟩)
  · have hv' : (bs.map Value.bool)[i]? = some v := by simpa using hv
    rw [List.getElem?_map] at hv'
    cases eb : bs[i]? with
    | none => rw [eb] at hv'; cases hv'
    | some b =>
      rw [eb] at hv'
      obtain rfl : Value.bool b = v := Option.some.inj hv'
      have : bs.getD i true = b := by rw [List.getD_eq_getElem?_getD, eb]; rfl
      have hq' : Q' b s1 := by rw [← this]; exact hq
      exact wpAny_pure hq'
  · have keep : ∀ b o, s.heap.get? b = some o → h'.get? b = some o := fun b o e => k b o (by simpa using Nat.ne_of_lt (Heap.lt_size e)) (Heap.get?_push_of_some _ e)
    refine ⟨.bl (bs.all id), H, I.kept (t' := tk) keep, ?_, q⟩
    show Value.bool _ = Value.bool _
    congr 1
    have go : ∀ (bs : List Bool), ((List.range bs.length).all fun i => bs.getD i true) = bs.all id := by
      intro bs
      induction bs with
      | nil => rfl
      | cons b bs ih =>
        rw [List.length_cons, List.range_succ_eq_map, List.all_cons, List.all_map, List.all_cons, ← ih]
        rfl
    rw [← go bs]
    simp

/-! ### list.remove of an int that is there -/
def rRemove : V → List V → Hp → VK → Prop := fun x vs H Q => ∃ (l : Addr) (ns : List Int) (z : Int), x = .ref l ∧ vs = [.int z] ∧ H l = some (.lst (ns.map V.int)) ∧ z ∈ ns ∧ Q .non (upd H l (.lst ((ns.eraseIdx (ns.idxOf z)).map V.int)))
theorem ints_of : ∀ {ns : List Int} {its : List Value}, Vals (ns.map V.int) its → ∀ i (h : i < its.length) (h' : i < ns.length), ∃ t, its[i] = Value.int ns[i] t
  | [], _, .nil, i, h, _ => by simp at h
  | n :: ns, _, .cons ⟨t, e⟩ r, 0, _, _ => ⟨t, e⟩
  | n :: ns, _, .cons _ r, i + 1, h, h' => ints_of r i (by simpa using h) (by simpa using h')
def isI (z : Int) (v : Value) : Bool := match v with
  | .int y _ => y == z
  | _ => false
theorem mt_remove : MtM X "list.remove" rRemove := by
  intro pins s σ H x vs v us Q I rx rv h
  obtain ⟨l, ns, z, rfl, rfl, hH, hz, q⟩ := h
  cases rx
  obtain ⟨u, rfl, ru⟩ := rv.one
  obtain ⟨t, rfl⟩ := ru
  obtain ⟨zz, its, n, r, hl, e⟩ := I.lstM hH
  have hlen : its.length = ns.length := by have := r.length; rw [List.length_map] at this; exact this.symm
  have hj : ns.idxOf z < ns.length := List.idxOf_lt_length_iff.mpr hz
  have at_ : ∀ i (h : i < its.length), ∃ t, its[i] = Value.int (ns[i]'(by omega)) t := fun i h => ints_of r i h (by omega)
  refine call_meets F.slot_list_remove ⟨_, e, rfl⟩ F.entry_list_remove (F.args_list_remove_2 _ _)
    (MeetsSeq.list_remove l its.toArray n (.int z t) (isI z) (fun y hy => ?_) (ns.idxOf z) (by simpa [hlen] using hj) ?_ (fun m hm hlt => ?_) (by rw [List.size_toArray, hlen]; rw [List.length_map] at zz; exact zz)) ⟨e, ?_⟩
  · obtain ⟨i, hi, rfl⟩ := List.mem_iff_getElem.mp (show y ∈ its by simpa using hy)
    obtain ⟨t', e'⟩ := at_ i hi
    rw [e']
    exact MeetsSeq.EqGives.int _ _ _ _
  · obtain ⟨t', e'⟩ := at_ (ns.idxOf z) (by omega)
    have e2 : its.toArray[ns.idxOf z]'(by simpa [hlen] using hj) = its[ns.idxOf z]'(by omega) := by simp
    rw [e2, e']
    show (ns[ns.idxOf z] == z) = true
    rw [List.getElem_idxOf]; simp
  · obtain ⟨t', e'⟩ := at_ m (by simpa using hm)
    have e2 : its.toArray[m] = its[m]'(by simpa using hm) := by simp
    rw [e2, e']
    show (ns[m] == z) = false
    have := List.not_of_lt_findIdx (p := (· == z)) (xs := ns) (i := m) hlt
    simpa using this
  · refine ⟨.non, _, I.lset (its' := its.eraseIdx (ns.idxOf z)) hH e ?_ ?_ ?_, rfl, q⟩
    · show its.toArray.eraseIdxIfInBounds _ = _
      rw [List.eraseIdxIfInBounds_toArray]
    · have em : ∀ (l : List Int) (j : Nat), (l.eraseIdx j).map V.int = (l.map V.int).eraseIdx j := by
        intro l
        induction l with
        | nil => intro j; rfl
        | cons y l ih =>
          intro j
          cases j with
          | zero => rfl
          | succ j => simp only [List.eraseIdx_cons_succ, List.map_cons, ih]
      rw [em]
      exact r.eraseIdx _
    · rw [List.length_map, List.length_eraseIdx]
      rw [List.length_map] at zz
      split <;> omega
end
end L2

set_option maxHeartbeats 4000000
namespace L2
open PySem PySem.Spec PyProof.Rows
/-! ### words for whole laws: a def that is called by its name; what stays -/
structure Cal (P : Program) (w : World) (K : PySem.W.Frag) (mg : Str → Option Value) (base : Heap) (CX : CXT) (k : Nat) (x : Str) (ps : List Str) (sp : Sp) : Prop where
  ex : ∃ f fd, mg x = some (.ref f) ∧ PySem.W.keepIn K (.ref f) = true ∧ Binds K fd ps [] ∧ FnOk P w K mg base CX k f fd ps sp
theorem pe_cal {X : Cx} {CX : CXT} {k : Nat} {x : Str} {ps : List Str} {sp : Sp} {E : XK} {e : Expr} {es : List Expr} {t : TA} {p pos : Pos} (C : Cal X.prog X.w X.K X.mg X.base CX k x ps sp) (hr : Room k X.A) (hx : Passes CX X E) (ha : PA X (e :: es) t) (hg : Gl X x := by rfl)
    (hdb : (x == ("__debug__" : Str)) = false := by decide) (he : starEach (e :: es) X.env = (false, eval e X.env) :: starEach es X.env := by rfl) (hpl : (backTo pos (starEach es X.env)).any (·.1) = false := by rfl) :
    PE X (.Call (.Name x p) (e :: es) [] pos) (tCall sp [] E t) := by
  obtain ⟨f, fd, a, b, c, d⟩ := C.ex
  exact pe_call d hr hg a b c .nil hx ha hdb he hpl
theorem same_new {H : Hp} {D : Addr} {o : HO} (h : H D = none) : Same H (upd H D o) := fun b u e => by rw [upd_ne (ne_of_none e h)]; exact e
/-- all but p stays -/
def SameE (p : Addr) (H H' : Hp) : Prop := ∀ b o, H b = some o → b ≠ p → H' b = some o
theorem SameE.refl {p : Addr} {H : Hp} : SameE p H H := fun _ _ h _ => h
theorem SameE.trans {p : Addr} {H H1 H2 : Hp} (a : SameE p H H1) (b : SameE p H1 H2) : SameE p H H2 := fun c o h n => b c o (a c o h n) n
theorem SameE.upd {p : Addr} {H : Hp} {o : HO} : SameE p H (upd H p o) := fun b u h n => by rw [upd_ne n]; exact h
theorem SameE.of {p : Addr} {H H' : Hp} (s : Same H H') : SameE p H H' := fun b o h _ => s b o h
theorem SameE.free {p q : Addr} {H H' : Hp} (s : SameE p H H') (hp : H' p ≠ none) (h : H' q = none) : H q = none := by
  cases z : H q with
  | none => rfl
  | some o =>
    by_cases e : q = p
    · subst e; exact absurd h hp
    · rw [s q o z e] at h; cases h
theorem ixN_nat {n j : Nat} (h : j < n) : ixN n (j : Int) = some j := by
  unfold ixN
  rw [if_pos (by omega), if_pos (by omega)]
  simp
theorem getD_snoc {as : List Addr} {t : Addr} {j n : Nat} (h : as.length = n) : (as ++ [t]).getD j 0 = if j = n then t else as.getD j 0 := by
  rw [List.getD_eq_getElem?_getD, List.getD_eq_getElem?_getD]
  by_cases hj : j = n
  · subst hj; subst h
    rw [if_pos rfl, List.getElem?_append_right (Nat.le_refl _), Nat.sub_self]; rfl
  · rw [if_neg hj]
    by_cases hlt : j < as.length
    · rw [List.getElem?_append_left hlt]
    · rw [List.getElem?_append_right (by omega), List.getElem?_eq_none (by simp; omega), List.getElem?_eq_none (by omega)]
/-- what a list of addresses holds, one by one -/
def Holds (H : Hp) (as : List Addr) (n : Nat) (o : Nat → HO) : Prop := as.length = n ∧ ∀ j, j < n → H (as.getD j 0) = some (o j)
theorem Holds.nil {H : Hp} {o : Nat → HO} : Holds H [] 0 o := ⟨rfl, fun j hj => absurd hj (by omega)⟩
theorem Holds.snoc {H : Hp} {as : List Addr} {n : Nat} {o : Nat → HO} {t : Addr} (h : Holds H as n o) (ht : H t = some (o n)) : Holds H (as ++ [t]) (n + 1) o := by
  refine ⟨by rw [List.length_append, h.1]; rfl, fun j hj => ?_⟩
  rw [getD_snoc h.1]
  by_cases e : j = n
  · rw [if_pos e, e]; exact ht
  · rw [if_neg e]; exact h.2 j (by omega)
theorem Holds.mono {H H' : Hp} {as : List Addr} {n : Nat} {o : Nat → HO} (h : Holds H as n o) (e : ∀ j, j < n → H (as.getD j 0) = some (o j) → H' (as.getD j 0) = some (o j)) : Holds H' as n o := ⟨h.1, fun j hj => e j hj (h.2 j hj)⟩
end L2

set_option maxHeartbeats 1500000
namespace PyProof.Rows
open PySem
/-! ### a sort of any length: what comes out is what went in, in some order -/
def gallop' : Bool → Keyed → Array Keyed → Nat → Nat → Nat → StateT SortSt Sem (Option Nat) := sortPriv% PySem.Builtin.gallop
def mergeLo' : Array Keyed → Array Keyed → StateT SortSt Sem (Array Keyed) := sortPriv% PySem.Builtin.mergeLo
def mergeHi' : Array Keyed → Array Keyed → StateT SortSt Sem (Array Keyed) := sortPriv% PySem.Builtin.mergeHi
def setMinGallop' : Nat → StateT SortSt Sem Unit := sortPriv% PySem.Builtin.setMinGallop
/-- any two of the items can be compared, and nothing is changed by it -/
def Cmp (prog : Program) (w : World) (A : Around) (s : Shared) (κ : SortKind) (a₀ : Array Keyed) : Prop :=
  ∀ x y, x ∈ a₀.toList → y ∈ a₀.toList → ∀ (Q : Bool → Shared → Prop) (E : Value → Shared → Prop), (∀ b, Q b s) → wpAny (model prog w) A (keyLt' κ x.1 y.1) Q E s
structure SQ (κ : SortKind) (a₀ : Array Keyed) (pd : Array (Nat × Nat × Nat)) (st : SortSt) : Prop where
  perm : (arrOf st).Perm a₀
  kind : kindOf st = κ
  failed : failedOf st = none
  pend : pendingOf st = pd
section
variable {prog : Program} {w : World} {A : Around} {E : Value → Shared → Prop} {s : Shared} {κ : SortKind} {a₀ : Array Keyed} {pd : Array (Nat × Nat × Nat)}
theorem SQ.size {st : SortSt} (h : SQ κ a₀ pd st) : (arrOf st).size = a₀.size := h.perm.size_eq
theorem SQ.setArr {st : SortSt} (h : SQ κ a₀ pd st) {xs : Array Keyed} (hp : xs.Perm (arrOf st)) : SQ κ a₀ pd (setArr st xs) := ⟨hp.trans h.perm, h.kind, h.failed, h.pend⟩
theorem SQ.at {st : SortSt} (h : SQ κ a₀ pd st) {i : Nat} (hi : i < a₀.size) : ∃ p, (arrOf st)[i]? = some p ∧ p ∈ a₀.toList := by
  have hi' : i < (arrOf st).size := by rw [h.size]; exact hi
  exact ⟨(arrOf st)[i], getElem?_pos _ i hi', (Array.perm_iff_toList_perm.mp h.perm).mem_iff.mp (by simp)⟩
theorem wpS_lt {st : SortSt} {x y : Keyed} {Q : Option Bool → SortSt → Prop} (hC : Cmp prog w A s κ a₀) (hk : kindOf st = κ) (hx : x ∈ a₀.toList) (hy : y ∈ a₀.toList) (h : ∀ b, Q (some b) st) : wpS (model prog w) A E s (lt' x y) Q st := by
  rw [lt'_eq]
  refine wpS_bind (wpS_get ?_)
  rw [hk]
  refine wpS_bind (wpS_lift (wpAny_attempt (hC x y hx hy _ _ fun b => ⟨rfl, ?_⟩)))
  exact wpS_pure (h b)
theorem wpS_elem {st : SortSt} {arr : Array Keyed} {i : Nat} {p : Keyed} {Q : Keyed → SortSt → Prop} (hi : arr[i]? = some p) (h : Q p st) : wpS (model prog w) A E s (elem' arr i) Q st := by
  rw [elem'_eq, hi]
  exact wpS_pure h
theorem wpS_ltQ {st : SortSt} {i j : Nat} {Q : Option Bool → SortSt → Prop} (hC : Cmp prog w A s κ a₀) (hB : SQ κ a₀ pd st) (hi : i < a₀.size) (hj : j < a₀.size) (h : ∀ b, Q (some b) st) : wpS (model prog w) A E s (ltAt' i j) Q st := by
  obtain ⟨p, e1, m1⟩ := hB.at hi
  obtain ⟨q, e2, m2⟩ := hB.at hj
  rw [ltAt'_eq]
  refine wpS_bind (wpS_get ?_)
  exact wpS_bind (wpS_elem e1 (wpS_bind (wpS_elem e2 (wpS_lt hC hB.kind m1 m2 h))))
theorem wpS_rev {st : SortSt} {i j : Nat} {Q : Unit → SortSt → Prop} (hB : SQ κ a₀ pd st) (h : ∀ st', SQ κ a₀ pd st' → Q () st') : wpS (model prog w) A E s (reverseSlice' i j) Q st := by
  rw [reverseSlice'_eq]
  exact wpS_modify (h _ (hB.setArr (mirror_perm _ _ _ _)))
theorem wpS_down {st : SortSt} {i j : Nat} {Q : Unit → SortSt → Prop} (hB : SQ κ a₀ pd st) (h : ∀ st', SQ κ a₀ pd st' → Q () st') : wpS (model prog w) A E s (moveDown' i j) Q st := by
  rw [moveDown'_eq]
  exact wpS_modify (h _ (hB.setArr (bubble_perm _ _ _)))
theorem wpS_bin {st : SortSt} {lo n ok : Nat} {Q : Bool → SortSt → Prop} (hC : Cmp prog w A s κ a₀) (hn : lo + n ≤ a₀.size) (hB : SQ κ a₀ pd st) (h : ∀ st', SQ κ a₀ pd st' → Q true st') : wpS (model prog w) A E s (binarySort' lo n ok) Q st := by
  rw [binarySort'_eq]
  refine wpS_bind (wpS_mono (wpS_forRange (I := fun _ c st' => c = (none, ()) ∧ SQ κ a₀ pd st') (Q := fun c st' => c = (none, ()) ∧ SQ κ a₀ pd st') ?_ (fun c st' hh => hh) ⟨rfl, hB⟩) ?_)
  · rintro k c st' hk1 hk2 ⟨rfl, hB'⟩
    dsimp only
    refine wpS_bind (wpS_mono (wpS_forRange (I := fun _ c st'' => (∃ l r, c = (none, l, r) ∧ r ≤ k) ∧ SQ κ a₀ pd st'') (Q := fun c st'' => (∃ l r, c = (none, l, r) ∧ r ≤ k) ∧ SQ κ a₀ pd st'') ?_ (fun c st' hh => hh) ⟨⟨_, _, rfl, Nat.le_refl _⟩, hB'⟩) ?_)
    · rintro x c st2 _ _ ⟨⟨l, r, rfl, hr⟩, hB2⟩
      dsimp only
      by_cases hlr : l ≥ r
      · rw [if_pos hlr]
        exact wpS_pure ⟨⟨_, _, rfl, hr⟩, hB2⟩
      · rw [if_neg hlr]
        refine wpS_bind (wpS_ltQ hC hB2 (by omega) (by omega) fun b => ?_)
        cases b
        · exact wpS_pure ⟨⟨_, _, rfl, hr⟩, hB2⟩
        · exact wpS_pure ⟨⟨_, _, rfl, by omega⟩, hB2⟩
    · rintro c st2 ⟨⟨l, r, rfl, hr⟩, hB2⟩
      dsimp only
      exact wpS_bind (wpS_down hB2 fun st3 hB3 => wpS_pure ⟨rfl, hB3⟩)
  · rintro c st' ⟨rfl, hB'⟩
    exact wpS_pure (h st' hB')
end
end PyProof.Rows

set_option maxHeartbeats 1500000
namespace PyProof.Rows
open PySem
theorem gallop'_eq (left : Bool) (key : Keyed) (arr : Array Keyed) (base n hint : Nat) : gallop' left key arr base n hint = (do
  let beyond (i : Nat) : StateT SortSt Sem (Option Bool) := do
    let x ← elem' arr (base + i)
    if left then lt' x key else return (← lt' key x).map (!·)
  let mut lastofs := 0
  let mut ofs := 1
  let mut lo := 0
  let mut hi := 0
  let some right ← beyond hint | return none
  if right then
    let maxofs := n - hint
    for _ in [0:n] do
      if ofs ≥ maxofs then break
      let some more ← beyond (hint + ofs) | return none
      if !more then break
      lastofs := ofs
      ofs := 2 * ofs + 1
    lo := hint + lastofs + 1
    hi := hint + min ofs maxofs
  else
    let maxofs := hint + 1
    for _ in [0:n] do
      if ofs ≥ maxofs then break
      let some found ← beyond (hint - ofs) | return none
      if found then break
      lastofs := ofs
      ofs := 2 * ofs + 1
    lo := hint + 1 - min ofs maxofs
    hi := hint - lastofs
  for _ in [0:n] do
    if lo ≥ hi then break
    let m := lo + (hi - lo) / 2
    let some more ← beyond m | return none
    if more then lo := m + 1 else hi := m
  return some hi) := rfl
section
variable {prog : Program} {w : World} {A : Around} {E : Value → Shared → Prop} {s : Shared} {κ : SortKind} {a₀ : Array Keyed} {pd : Array (Nat × Nat × Nat)}
theorem wpS_beyond {st : SortSt} {left : Bool} {key : Keyed} {arr : Array Keyed} {j : Nat} {Q : Option Bool → SortSt → Prop} (hC : Cmp prog w A s κ a₀) (hk : kindOf st = κ) (hkey : key ∈ a₀.toList) (hin : ∀ x ∈ arr.toList, x ∈ a₀.toList) (hj : j < arr.size) (h : ∀ b, Q (some b) st) :
    wpS (model prog w) A E s (do
    let x ← elem' arr j
    if left then lt' x key else return (← lt' key x).map (!·)) Q st := by
  have hm : arr[j] ∈ a₀.toList := hin _ (by simp)
  refine wpS_bind (wpS_elem (getElem?_pos arr j hj) ?_)
  cases left
  · rw [if_neg (by decide)]
    exact wpS_bind (wpS_lt hC hk hkey hm fun b => wpS_pure (h (!b)))
  · rw [if_pos rfl]
    exact wpS_lt hC hk hm hkey h
theorem wpS_gallop {st : SortSt} {left : Bool} {key : Keyed} {arr : Array Keyed} {base n hint : Nat} {Q : Option Nat → SortSt → Prop} (hC : Cmp prog w A s κ a₀) (hk : kindOf st = κ) (hkey : key ∈ a₀.toList) (hin : ∀ x ∈ arr.toList, x ∈ a₀.toList) (hn : base + n ≤ arr.size) (hh : hint < n)
    (h : ∀ k, k ≤ n → Q (some k) st) : wpS (model prog w) A E s (gallop' left key arr base n hint) Q st := by
  rw [gallop'_eq]
  refine wpS_bind (wpS_beyond hC hk hkey hin (by omega) fun right => ?_)
  cases right
  · dsimp only
    rw [if_neg (by decide)]
    refine wpS_bind (wpS_mono (wpS_forRange (I := fun _ c st' => (∃ l o, c = (none, l, o)) ∧ st = st') (Q := fun c st' => (∃ l o, c = (none, l, o)) ∧ st = st') ?_ (fun c st' hh => hh) ⟨⟨_, _, rfl⟩, rfl⟩) ?_)
    · rintro x c st' _ _ ⟨⟨l, o, rfl⟩, rfl⟩
      dsimp only
      by_cases hlr : o ≥ hint + 1
      · rw [if_pos hlr]; exact wpS_pure ⟨⟨_, _, rfl⟩, rfl⟩
      · rw [if_neg hlr]
        refine wpS_bind (wpS_beyond hC hk hkey hin (by omega) fun found => ?_)
        cases found
        · exact wpS_pure ⟨⟨_, _, rfl⟩, rfl⟩
        · exact wpS_pure ⟨⟨_, _, rfl⟩, rfl⟩
    · rintro c st' ⟨⟨l, o, rfl⟩, rfl⟩
      dsimp only
      refine wpS_bind (wpS_mono (wpS_forRange (I := fun _ c st' => (∃ l u, c = (none, l, u) ∧ u ≤ n) ∧ st = st') (Q := fun c st' => (∃ l u, c = (none, l, u) ∧ u ≤ n) ∧ st = st') ?_ (fun c st' hh => hh) ⟨⟨_, _, rfl, by omega⟩, rfl⟩) ?_)
      · rintro x c st' _ _ ⟨⟨l, u, rfl, hu⟩, rfl⟩
        dsimp only
        by_cases hlr : l ≥ u
        · rw [if_pos hlr]; exact wpS_pure ⟨⟨_, _, rfl, hu⟩, rfl⟩
        · rw [if_neg hlr]
          refine wpS_bind (wpS_beyond hC hk hkey hin (by omega) fun more => ?_)
          cases more
          · exact wpS_pure ⟨⟨_, _, rfl, by omega⟩, rfl⟩
          · exact wpS_pure ⟨⟨_, _, rfl, hu⟩, rfl⟩
      · rintro c st' ⟨⟨l, u, rfl, hu⟩, rfl⟩
        exact wpS_pure (h u hu)
  · dsimp only
    rw [if_pos rfl]
    refine wpS_bind (wpS_mono (wpS_forRange (I := fun _ c st' => (∃ l o, c = (none, l, o)) ∧ st = st') (Q := fun c st' => (∃ l o, c = (none, l, o)) ∧ st = st') ?_ (fun c st' hh => hh) ⟨⟨_, _, rfl⟩, rfl⟩) ?_)
    · rintro x c st' _ _ ⟨⟨l, o, rfl⟩, rfl⟩
      dsimp only
      by_cases hlr : o ≥ n - hint
      · rw [if_pos hlr]; exact wpS_pure ⟨⟨_, _, rfl⟩, rfl⟩
      · rw [if_neg hlr]
        refine wpS_bind (wpS_beyond hC hk hkey hin (by omega) fun more => ?_)
        cases more
        · exact wpS_pure ⟨⟨_, _, rfl⟩, rfl⟩
        · exact wpS_pure ⟨⟨_, _, rfl⟩, rfl⟩
    · rintro c st' ⟨⟨l, o, rfl⟩, rfl⟩
      dsimp only
      refine wpS_bind (wpS_mono (wpS_forRange (I := fun _ c st' => (∃ l u, c = (none, l, u) ∧ u ≤ n) ∧ st = st') (Q := fun c st' => (∃ l u, c = (none, l, u) ∧ u ≤ n) ∧ st = st') ?_ (fun c st' hh => hh) ⟨⟨_, _, rfl, by omega⟩, rfl⟩) ?_)
      · rintro x c st' _ _ ⟨⟨l, u, rfl, hu⟩, rfl⟩
        dsimp only
        by_cases hlr : l ≥ u
        · rw [if_pos hlr]; exact wpS_pure ⟨⟨_, _, rfl, hu⟩, rfl⟩
        · rw [if_neg hlr]
          refine wpS_bind (wpS_beyond hC hk hkey hin (by omega) fun more => ?_)
          cases more
          · exact wpS_pure ⟨⟨_, _, rfl, by omega⟩, rfl⟩
          · exact wpS_pure ⟨⟨_, _, rfl, hu⟩, rfl⟩
      · rintro c st' ⟨⟨l, u, rfl, hu⟩, rfl⟩
        exact wpS_pure (h u hu)
end
end PyProof.Rows

set_option maxHeartbeats 1500000
namespace PyProof.Rows
open PySem
theorem setMinGallop'_eq (g : Nat) : setMinGallop' g = modify fun s => SortSt.mk' (kindOf s) (arrOf s) (pendingOf s) g (failedOf s) := rfl
theorem mergeLo'_eq (a b : Array Keyed) : mergeLo' a b = (do
  rule "list.sort.merge-lo"
  let total := a.size + b.size
  let done (out : Array Keyed) (ia ib : Nat) := out ++ a.extract ia a.size ++ b.extract ib b.size
  let lastOfA (out : Array Keyed) (ia ib : Nat) := out ++ b.extract ib b.size ++ a.extract ia a.size
  let mut out : Array Keyed := #[← elem' b 0]
  let mut ia := 0
  let mut ib := 1
  if ib == b.size then return done out ia ib
  if ia + 1 == a.size then return lastOfA out ia ib
  let mut minGallop := gallopOf (← get)
  for _ in [0:total] do
    let mut acount := 0
    let mut bcount := 0
    for _ in [0:total] do
      let some bWins ← lt' (← elem' b ib) (← elem' a ia) | return done out ia ib
      if bWins then
        out := out.push (← elem' b ib); ib := ib + 1; bcount := bcount + 1; acount := 0
        if ib == b.size then return done out ia ib
        if bcount ≥ minGallop then break
      else
        out := out.push (← elem' a ia); ia := ia + 1; acount := acount + 1; bcount := 0
        if ia + 1 == a.size then return lastOfA out ia ib
        if acount ≥ minGallop then break
    rule "list.sort.gallop"
    minGallop := minGallop + 1
    for _ in [0:total] do
      if minGallop > 1 then minGallop := minGallop - 1
      setMinGallop' minGallop
      let some k ← gallop' false (← elem' b ib) a ia (a.size - ia) 0 | return done out ia ib
      acount := k
      if k > 0 then
        out := out ++ a.extract ia (ia + k); ia := ia + k
        if ia + 1 == a.size then return lastOfA out ia ib
        if ia == a.size then return done out ia ib
      out := out.push (← elem' b ib); ib := ib + 1
      if ib == b.size then return done out ia ib
      let some k ← gallop' true (← elem' a ia) b ib (b.size - ib) 0 | return done out ia ib
      bcount := k
      if k > 0 then
        out := out ++ b.extract ib (ib + k); ib := ib + k
        if ib == b.size then return done out ia ib
      out := out.push (← elem' a ia); ia := ia + 1
      if ia + 1 == a.size then return lastOfA out ia ib
      if acount < 7 && bcount < 7 then break
    minGallop := minGallop + 1
    setMinGallop' minGallop
  unsupported "internal:list.sort.merge-bound") := rfl
structure SM (κ : SortKind) (ar : Array Keyed) (pd : Array (Nat × Nat × Nat)) (st : SortSt) : Prop where
  arr : arrOf st = ar
  kind : kindOf st = κ
  failed : failedOf st = none
  pend : pendingOf st = pd
/-! ### two runs merged: so far out holds the first ia of a and the first ib of b -/
def PI (a b out : Array Keyed) (ia ib : Nat) : Prop := out.toList.Perm (a.toList.take ia ++ b.toList.take ib)
theorem take_one {l : List Keyed} {i : Nat} (h : i < l.length) : l.take (i + 1) = l.take i ++ [l[i]] := by rw [List.take_add_one, List.getElem?_eq_getElem h]; rfl
theorem PI.pushA {a b out : Array Keyed} {ia ib : Nat} (h : PI a b out ia ib) (hi : ia < a.size) : PI a b (out.push a[ia]) (ia + 1) ib := by
  unfold PI at h ⊢
  rw [Array.toList_push, take_one (by simpa using hi), List.append_assoc]
  refine (h.append_right _).trans ?_
  rw [List.append_assoc]
  refine List.Perm.append_left _ ?_
  have : a.toList[ia]'(by simpa using hi) = a[ia] := by simp
  rw [this]
  exact List.perm_append_comm
theorem PI.pushB {a b out : Array Keyed} {ia ib : Nat} (h : PI a b out ia ib) (hi : ib < b.size) : PI a b (out.push b[ib]) ia (ib + 1) := by
  unfold PI at h ⊢
  rw [Array.toList_push, take_one (by simpa using hi), ← List.append_assoc]
  have : b.toList[ib]'(by simpa using hi) = b[ib] := by simp
  rw [this]
  exact h.append_right _
theorem ext_list {a : Array Keyed} {i j : Nat} : (a.extract i j).toList = (a.toList.drop i).take (j - i) := by
  rw [Array.toList_extract, List.extract_eq_take_drop]
theorem PI.appA {a b out : Array Keyed} {ia ib : Nat} (h : PI a b out ia ib) (k : Nat) : PI a b (out ++ a.extract ia (ia + k)) (ia + k) ib := by
  unfold PI at h ⊢
  rw [Array.toList_append, ext_list, Nat.add_sub_cancel_left, List.take_add, List.append_assoc]
  refine (h.append_right _).trans ?_
  rw [List.append_assoc]
  exact List.Perm.append_left _ List.perm_append_comm
theorem PI.appB {a b out : Array Keyed} {ia ib : Nat} (h : PI a b out ia ib) (k : Nat) : PI a b (out ++ b.extract ib (ib + k)) ia (ib + k) := by
  unfold PI at h ⊢
  rw [Array.toList_append, ext_list, Nat.add_sub_cancel_left, List.take_add, ← List.append_assoc]
  exact h.append_right _
theorem PI.done {a b out : Array Keyed} {ia ib : Nat} (h : PI a b out ia ib) : (out ++ a.extract ia a.size ++ b.extract ib b.size).Perm (a ++ b) := by
  rw [Array.perm_iff_toList_perm]
  unfold PI at h
  rw [Array.toList_append, Array.toList_append, Array.toList_append, ext_list, ext_list]
  have e1 : (a.toList.drop ia).take (a.size - ia) = a.toList.drop ia := List.take_of_length_le (by simp)
  have e2 : (b.toList.drop ib).take (b.size - ib) = b.toList.drop ib := List.take_of_length_le (by simp)
  rw [e1, e2]
  refine ((h.append_right _).append_right _).trans ?_
  conv => rhs; rw [← List.take_append_drop ia a.toList, ← List.take_append_drop ib b.toList]
  rw [List.append_assoc, List.append_assoc, List.append_assoc]
  refine List.Perm.append_left _ ?_
  rw [← List.append_assoc, ← List.append_assoc]
  exact List.Perm.append_right _ List.perm_append_comm
theorem PI.last {a b out : Array Keyed} {ia ib : Nat} (h : PI a b out ia ib) : (out ++ b.extract ib b.size ++ a.extract ia a.size).Perm (a ++ b) := by
  refine Array.Perm.trans ?_ h.done
  rw [Array.perm_iff_toList_perm]
  rw [Array.toList_append, Array.toList_append, Array.toList_append, Array.toList_append, List.append_assoc, List.append_assoc]
  exact List.Perm.append_left _ List.perm_append_comm
section
variable {prog : Program} {w : World} {A : Around} {E : Value → Shared → Prop} {s : Shared} {κ : SortKind} {a₀ : Array Keyed} {pd : Array (Nat × Nat × Nat)} {ar : Array Keyed}
theorem wpS_mergeLo {st : SortSt} {a b : Array Keyed} {Q : Array Keyed → SortSt → Prop} (hC : Cmp prog w A s κ a₀) (hB : SM κ ar pd st) (ha : ∀ x ∈ a.toList, x ∈ a₀.toList) (hb : ∀ x ∈ b.toList, x ∈ a₀.toList) (a1 : 1 ≤ a.size) (b1 : 1 ≤ b.size)
    (h : ∀ out st', out.Perm (a ++ b) → SM κ ar pd st' → Q out st') : wpS (model prog w) A E s (mergeLo' a b) Q st := by
  rw [mergeLo'_eq]
  refine wpS_bind (wpS_lift (wpAny_rule ⟨rfl, ?_⟩))
  refine wpS_bind (wpS_elem (getElem?_pos b 0 (by omega)) ?_)
  dsimp only
  have p0 : PI a b #[b[0]] 0 1 := by
    have : PI a b #[] 0 0 := by unfold PI; simp
    exact this.pushB (by omega)
  by_cases e1 : (1 == b.size) = true
  · rw [if_pos e1]
    exact wpS_pure (h _ _ p0.done hB)
  rw [if_neg e1]
  have n1 : ¬ (1 = b.size) := by simpa using e1
  by_cases e2 : (0 + 1 == a.size) = true
  · rw [if_pos e2]
    exact wpS_pure (h _ _ p0.last hB)
  rw [if_neg e2]
  have n2 : ¬ (0 + 1 = a.size) := by simpa using e2
  refine wpS_bind (wpS_get ?_)
  refine wpS_bind (wpS_mono (wpS_forRange (I := fun i c st' => SM κ ar pd st' ∧ ∃ out ia ib mg, c = (none, out, ia, ib, mg) ∧ PI a b out ia ib ∧ ia + 1 < a.size ∧ ib < b.size ∧ i ≤ ia + ib) (Q := fun c st' => SM κ ar pd st' ∧ ∃ r c', c = (some r, c') ∧ r.Perm (a ++ b)) ?_ ?_ ⟨hB, _, _, _, _, rfl, p0, by omega, by omega, by omega⟩) ?_)
  · rintro i c st1 _ hi ⟨hB0, out, ia, ib, mg, rfl, p1, la, lb, li⟩
    dsimp only
    refine wpS_bind (wpS_mono (wpS_forRange (I := fun x c st' => SM κ ar pd st' ∧ ∃ out ia ib ac bc, c = (none, out, ia, ib, ac, bc) ∧ PI a b out ia ib ∧ ia + 1 < a.size ∧ ib < b.size ∧ i + x ≤ ia + ib) (Q := fun c st' => SM κ ar pd st' ∧ ((∃ r c', c = (some r, c') ∧ r.Perm (a ++ b)) ∨ ∃ out ia ib ac bc, c = (none, out, ia, ib, ac, bc) ∧ PI a b out ia ib ∧ ia + 1 < a.size ∧ ib < b.size ∧ i + 1 ≤ ia + ib)) ?_ ?_ ⟨hB0, _, _, _, _, _, rfl, p1, la, lb, by omega⟩) ?_)
    · rintro x c st2 _ hx ⟨hB1, out, ia, ib, ac, bc, rfl, p1, la, lb, li⟩
      dsimp only
      refine wpS_bind (wpS_elem (getElem?_pos b ib (by omega)) ?_)
      refine wpS_bind (wpS_elem (getElem?_pos a ia (by omega)) ?_)
      refine wpS_bind (wpS_lt hC hB1.kind (hb _ (by simp)) (ha _ (by simp)) fun bw => ?_)
      cases bw
      · dsimp only
        rw [if_neg (by decide)]
        refine wpS_bind (wpS_elem (getElem?_pos a ia (by omega)) ?_)
        have p2 := p1.pushA (show ia < a.size by omega)
        by_cases f1 : (ia + 1 + 1 == a.size) = true
        · rw [if_pos f1]; exact wpS_pure ⟨hB1, .inl ⟨_, _, rfl, p2.last⟩⟩
        rw [if_neg f1]
        have g1 : ¬ (ia + 1 + 1 = a.size) := by simpa using f1
        split
        · exact wpS_pure ⟨hB1, .inr ⟨_, _, _, _, _, rfl, p2, by omega, by omega, by omega⟩⟩
        · exact wpS_pure ⟨hB1, _, _, _, _, _, rfl, p2, by omega, by omega, by omega⟩
      · dsimp only
        rw [if_pos rfl]
        refine wpS_bind (wpS_elem (getElem?_pos b ib (by omega)) ?_)
        have p2 := p1.pushB (show ib < b.size by omega)
        by_cases f1 : (ib + 1 == b.size) = true
        · rw [if_pos f1]; exact wpS_pure ⟨hB1, .inl ⟨_, _, rfl, p2.done⟩⟩
        rw [if_neg f1]
        have g1 : ¬ (ib + 1 = b.size) := by simpa using f1
        split
        · exact wpS_pure ⟨hB1, .inr ⟨_, _, _, _, _, rfl, p2, by omega, by omega, by omega⟩⟩
        · exact wpS_pure ⟨hB1, _, _, _, _, _, rfl, p2, by omega, by omega, by omega⟩
    · rintro c st2 ⟨hB1, out, ia, ib, ac, bc, rfl, p1, la, lb, li⟩
      exact ⟨hB1, .inr ⟨_, _, _, _, _, rfl, p1, la, lb, by omega⟩⟩
    · rintro c st2 ⟨hB1, ⟨r, c', rfl, hp⟩ | ⟨out, ia, ib, ac, bc, rfl, p1, la, lb, li⟩⟩
      · exact wpS_pure ⟨hB1, _, _, rfl, hp⟩
      · dsimp only
        refine wpS_bind (wpS_lift (wpAny_rule ⟨rfl, ?_⟩))
        refine wpS_bind (wpS_mono (wpS_forRange (I := fun x c st' => SM κ ar pd st' ∧ ∃ out ia ib mg ac bc, c = (none, out, ia, ib, mg, ac, bc) ∧ PI a b out ia ib ∧ ia + 1 < a.size ∧ ib < b.size ∧ i + 1 ≤ ia + ib) (Q := fun c st' => SM κ ar pd st' ∧ ((∃ r c', c = (some r, c') ∧ r.Perm (a ++ b)) ∨ ∃ out ia ib mg ac bc, c = (none, out, ia, ib, mg, ac, bc) ∧ PI a b out ia ib ∧ ia + 1 < a.size ∧ ib < b.size ∧ i + 1 ≤ ia + ib)) ?_ ?_ ⟨hB1, _, _, _, _, _, _, rfl, p1, la, lb, li⟩) ?_)
        · rintro x c st2 _ hx ⟨hB1, out, ia, ib, mg, ac, bc, rfl, p1, la, lb, li⟩
          dsimp only
          by_cases hmg : mg > 1
          · rw [if_pos hmg]
            rw [setMinGallop'_eq]
            refine wpS_bind (wpS_modify ?_)
            refine wpS_bind (wpS_elem (getElem?_pos b ib (by omega)) ?_)
            have hB2 : SM κ ar pd (SortSt.mk' (kindOf st2) (arrOf st2) (pendingOf st2) (mg - 1) (failedOf st2)) := ⟨hB1.arr, hB1.kind, hB1.failed, hB1.pend⟩
            refine wpS_bind (wpS_gallop hC hB2.kind (hb _ (by simp)) ha (by omega) (by omega) fun k hk => ?_)
            dsimp only
            by_cases kp : k > 0
            · rw [if_pos kp]
              have p2 := p1.appA k
              by_cases f4 : (ia + k + 1 == a.size) = true
              · rw [if_pos f4]; exact wpS_pure ⟨hB2, .inl ⟨_, _, rfl, p2.last⟩⟩
              rw [if_neg f4]
              have g4 : ¬ (ia + k + 1 = a.size) := by simpa using f4
              by_cases f5 : (ia + k == a.size) = true
              · rw [if_pos f5]; exact wpS_pure ⟨hB2, .inl ⟨_, _, rfl, p2.done⟩⟩
              rw [if_neg f5]
              have g5 : ¬ (ia + k = a.size) := by simpa using f5
              refine wpS_bind (wpS_elem (getElem?_pos b (ib) (by omega)) ?_)
              have pb := p2.pushB (show ib < b.size by omega)
              by_cases f1 : ((ib) + 1 == b.size) = true
              · rw [if_pos f1]; exact wpS_pure ⟨hB2, .inl ⟨_, _, rfl, pb.done⟩⟩
              rw [if_neg f1]
              have g1 : ¬ ((ib) + 1 = b.size) := by simpa using f1
              refine wpS_bind (wpS_elem (getElem?_pos a (ia + k) (by omega)) ?_)
              refine wpS_bind (wpS_gallop hC hB2.kind (ha _ (by simp)) hb (by omega) (by omega) fun k2 hk2 => ?_)
              dsimp only
              by_cases k2p : k2 > 0
              · rw [if_pos k2p]
                have pb2 := pb.appB k2
                by_cases f2 : ((ib) + 1 + k2 == b.size) = true
                · rw [if_pos f2]; exact wpS_pure ⟨hB2, .inl ⟨_, _, rfl, pb2.done⟩⟩
                rw [if_neg f2]
                have g2 : ¬ ((ib) + 1 + k2 = b.size) := by simpa using f2
                refine wpS_bind (wpS_elem (getElem?_pos a (ia + k) (by omega)) ?_)
                have pc := pb2.pushA (show ia + k < a.size by omega)
                by_cases f3 : ((ia + k) + 1 + 1 == a.size) = true
                · rw [if_pos f3]; exact wpS_pure ⟨hB2, .inl ⟨_, _, rfl, pc.last⟩⟩
                rw [if_neg f3]
                have g3 : ¬ ((ia + k) + 1 + 1 = a.size) := by simpa using f3
                split
                · exact wpS_pure ⟨hB2, .inr ⟨_, _, _, _, _, _, rfl, pc, by omega, by omega, by omega⟩⟩
                · exact wpS_pure ⟨hB2, ⟨_, _, _, _, _, _, rfl, pc, by omega, by omega, by omega⟩⟩
              · rw [if_neg k2p]
                refine wpS_bind (wpS_elem (getElem?_pos a (ia + k) (by omega)) ?_)
                have pc := pb.pushA (show ia + k < a.size by omega)
                by_cases f3 : ((ia + k) + 1 + 1 == a.size) = true
                · rw [if_pos f3]; exact wpS_pure ⟨hB2, .inl ⟨_, _, rfl, pc.last⟩⟩
                rw [if_neg f3]
                have g3 : ¬ ((ia + k) + 1 + 1 = a.size) := by simpa using f3
                split
                · exact wpS_pure ⟨hB2, .inr ⟨_, _, _, _, _, _, rfl, pc, by omega, by omega, by omega⟩⟩
                · exact wpS_pure ⟨hB2, ⟨_, _, _, _, _, _, rfl, pc, by omega, by omega, by omega⟩⟩
            · rw [if_neg kp]
              refine wpS_bind (wpS_elem (getElem?_pos b (ib) (by omega)) ?_)
              have pb := p1.pushB (show ib < b.size by omega)
              by_cases f1 : ((ib) + 1 == b.size) = true
              · rw [if_pos f1]; exact wpS_pure ⟨hB2, .inl ⟨_, _, rfl, pb.done⟩⟩
              rw [if_neg f1]
              have g1 : ¬ ((ib) + 1 = b.size) := by simpa using f1
              refine wpS_bind (wpS_elem (getElem?_pos a (ia) (by omega)) ?_)
              refine wpS_bind (wpS_gallop hC hB2.kind (ha _ (by simp)) hb (by omega) (by omega) fun k2 hk2 => ?_)
              dsimp only
              by_cases k2p : k2 > 0
              · rw [if_pos k2p]
                have pb2 := pb.appB k2
                by_cases f2 : ((ib) + 1 + k2 == b.size) = true
                · rw [if_pos f2]; exact wpS_pure ⟨hB2, .inl ⟨_, _, rfl, pb2.done⟩⟩
                rw [if_neg f2]
                have g2 : ¬ ((ib) + 1 + k2 = b.size) := by simpa using f2
                refine wpS_bind (wpS_elem (getElem?_pos a (ia) (by omega)) ?_)
                have pc := pb2.pushA (show ia < a.size by omega)
                by_cases f3 : ((ia) + 1 + 1 == a.size) = true
                · rw [if_pos f3]; exact wpS_pure ⟨hB2, .inl ⟨_, _, rfl, pc.last⟩⟩
                rw [if_neg f3]
                have g3 : ¬ ((ia) + 1 + 1 = a.size) := by simpa using f3
                split
                · exact wpS_pure ⟨hB2, .inr ⟨_, _, _, _, _, _, rfl, pc, by omega, by omega, by omega⟩⟩
                · exact wpS_pure ⟨hB2, ⟨_, _, _, _, _, _, rfl, pc, by omega, by omega, by omega⟩⟩
              · rw [if_neg k2p]
                refine wpS_bind (wpS_elem (getElem?_pos a (ia) (by omega)) ?_)
                have pc := pb.pushA (show ia < a.size by omega)
                by_cases f3 : ((ia) + 1 + 1 == a.size) = true
                · rw [if_pos f3]; exact wpS_pure ⟨hB2, .inl ⟨_, _, rfl, pc.last⟩⟩
                rw [if_neg f3]
                have g3 : ¬ ((ia) + 1 + 1 = a.size) := by simpa using f3
                split
                · exact wpS_pure ⟨hB2, .inr ⟨_, _, _, _, _, _, rfl, pc, by omega, by omega, by omega⟩⟩
                · exact wpS_pure ⟨hB2, ⟨_, _, _, _, _, _, rfl, pc, by omega, by omega, by omega⟩⟩
          · rw [if_neg hmg]
            rw [setMinGallop'_eq]
            refine wpS_bind (wpS_modify ?_)
            refine wpS_bind (wpS_elem (getElem?_pos b ib (by omega)) ?_)
            have hB2 : SM κ ar pd (SortSt.mk' (kindOf st2) (arrOf st2) (pendingOf st2) mg (failedOf st2)) := ⟨hB1.arr, hB1.kind, hB1.failed, hB1.pend⟩
            refine wpS_bind (wpS_gallop hC hB2.kind (hb _ (by simp)) ha (by omega) (by omega) fun k hk => ?_)
            dsimp only
            by_cases kp : k > 0
            · rw [if_pos kp]
              have p2 := p1.appA k
              by_cases f4 : (ia + k + 1 == a.size) = true
              · rw [if_pos f4]; exact wpS_pure ⟨hB2, .inl ⟨_, _, rfl, p2.last⟩⟩
              rw [if_neg f4]
              have g4 : ¬ (ia + k + 1 = a.size) := by simpa using f4
              by_cases f5 : (ia + k == a.size) = true
              · rw [if_pos f5]; exact wpS_pure ⟨hB2, .inl ⟨_, _, rfl, p2.done⟩⟩
              rw [if_neg f5]
              have g5 : ¬ (ia + k = a.size) := by simpa using f5
              refine wpS_bind (wpS_elem (getElem?_pos b (ib) (by omega)) ?_)
              have pb := p2.pushB (show ib < b.size by omega)
              by_cases f1 : ((ib) + 1 == b.size) = true
              · rw [if_pos f1]; exact wpS_pure ⟨hB2, .inl ⟨_, _, rfl, pb.done⟩⟩
              rw [if_neg f1]
              have g1 : ¬ ((ib) + 1 = b.size) := by simpa using f1
              refine wpS_bind (wpS_elem (getElem?_pos a (ia + k) (by omega)) ?_)
              refine wpS_bind (wpS_gallop hC hB2.kind (ha _ (by simp)) hb (by omega) (by omega) fun k2 hk2 => ?_)
              dsimp only
              by_cases k2p : k2 > 0
              · rw [if_pos k2p]
                have pb2 := pb.appB k2
                by_cases f2 : ((ib) + 1 + k2 == b.size) = true
                · rw [if_pos f2]; exact wpS_pure ⟨hB2, .inl ⟨_, _, rfl, pb2.done⟩⟩
                rw [if_neg f2]
                have g2 : ¬ ((ib) + 1 + k2 = b.size) := by simpa using f2
                refine wpS_bind (wpS_elem (getElem?_pos a (ia + k) (by omega)) ?_)
                have pc := pb2.pushA (show ia + k < a.size by omega)
                by_cases f3 : ((ia + k) + 1 + 1 == a.size) = true
                · rw [if_pos f3]; exact wpS_pure ⟨hB2, .inl ⟨_, _, rfl, pc.last⟩⟩
                rw [if_neg f3]
                have g3 : ¬ ((ia + k) + 1 + 1 = a.size) := by simpa using f3
                split
                · exact wpS_pure ⟨hB2, .inr ⟨_, _, _, _, _, _, rfl, pc, by omega, by omega, by omega⟩⟩
                · exact wpS_pure ⟨hB2, ⟨_, _, _, _, _, _, rfl, pc, by omega, by omega, by omega⟩⟩
              · rw [if_neg k2p]
                refine wpS_bind (wpS_elem (getElem?_pos a (ia + k) (by omega)) ?_)
                have pc := pb.pushA (show ia + k < a.size by omega)
                by_cases f3 : ((ia + k) + 1 + 1 == a.size) = true
                · rw [if_pos f3]; exact wpS_pure ⟨hB2, .inl ⟨_, _, rfl, pc.last⟩⟩
                rw [if_neg f3]
                have g3 : ¬ ((ia + k) + 1 + 1 = a.size) := by simpa using f3
                split
                · exact wpS_pure ⟨hB2, .inr ⟨_, _, _, _, _, _, rfl, pc, by omega, by omega, by omega⟩⟩
                · exact wpS_pure ⟨hB2, ⟨_, _, _, _, _, _, rfl, pc, by omega, by omega, by omega⟩⟩
            · rw [if_neg kp]
              refine wpS_bind (wpS_elem (getElem?_pos b (ib) (by omega)) ?_)
              have pb := p1.pushB (show ib < b.size by omega)
              by_cases f1 : ((ib) + 1 == b.size) = true
              · rw [if_pos f1]; exact wpS_pure ⟨hB2, .inl ⟨_, _, rfl, pb.done⟩⟩
              rw [if_neg f1]
              have g1 : ¬ ((ib) + 1 = b.size) := by simpa using f1
              refine wpS_bind (wpS_elem (getElem?_pos a (ia) (by omega)) ?_)
              refine wpS_bind (wpS_gallop hC hB2.kind (ha _ (by simp)) hb (by omega) (by omega) fun k2 hk2 => ?_)
              dsimp only
              by_cases k2p : k2 > 0
              · rw [if_pos k2p]
                have pb2 := pb.appB k2
                by_cases f2 : ((ib) + 1 + k2 == b.size) = true
                · rw [if_pos f2]; exact wpS_pure ⟨hB2, .inl ⟨_, _, rfl, pb2.done⟩⟩
                rw [if_neg f2]
                have g2 : ¬ ((ib) + 1 + k2 = b.size) := by simpa using f2
                refine wpS_bind (wpS_elem (getElem?_pos a (ia) (by omega)) ?_)
                have pc := pb2.pushA (show ia < a.size by omega)
                by_cases f3 : ((ia) + 1 + 1 == a.size) = true
                · rw [if_pos f3]; exact wpS_pure ⟨hB2, .inl ⟨_, _, rfl, pc.last⟩⟩
                rw [if_neg f3]
                have g3 : ¬ ((ia) + 1 + 1 = a.size) := by simpa using f3
                split
                · exact wpS_pure ⟨hB2, .inr ⟨_, _, _, _, _, _, rfl, pc, by omega, by omega, by omega⟩⟩
                · exact wpS_pure ⟨hB2, ⟨_, _, _, _, _, _, rfl, pc, by omega, by omega, by omega⟩⟩
              · rw [if_neg k2p]
                refine wpS_bind (wpS_elem (getElem?_pos a (ia) (by omega)) ?_)
                have pc := pb.pushA (show ia < a.size by omega)
                by_cases f3 : ((ia) + 1 + 1 == a.size) = true
                · rw [if_pos f3]; exact wpS_pure ⟨hB2, .inl ⟨_, _, rfl, pc.last⟩⟩
                rw [if_neg f3]
                have g3 : ¬ ((ia) + 1 + 1 = a.size) := by simpa using f3
                split
                · exact wpS_pure ⟨hB2, .inr ⟨_, _, _, _, _, _, rfl, pc, by omega, by omega, by omega⟩⟩
                · exact wpS_pure ⟨hB2, ⟨_, _, _, _, _, _, rfl, pc, by omega, by omega, by omega⟩⟩
        · rintro c st2 ⟨hB1, hh⟩
          exact ⟨hB1, .inr hh⟩
        · rintro c st2 ⟨hB1, ⟨r, c', rfl, hp⟩ | ⟨out, ia, ib, mg, ac, bc, rfl, p1, la, lb, li⟩⟩
          · exact wpS_pure ⟨hB1, _, _, rfl, hp⟩
          · dsimp only
            rw [setMinGallop'_eq]
            refine wpS_bind (wpS_modify ?_)
            exact wpS_pure ⟨⟨hB1.arr, hB1.kind, hB1.failed, hB1.pend⟩, _, _, _, _, rfl, p1, la, lb, li⟩
  · rintro c st1 ⟨hB0, out, ia, ib, mg, rfl, p1, la, lb, li⟩
    omega
  · rintro c st1 ⟨hB0, r, c', rfl, hp⟩
    exact wpS_pure (h r st1 hp hB0)
end
end PyProof.Rows

set_option maxHeartbeats 1500000
namespace PyProof.Rows
open PySem
theorem mergeHi'_eq (a b : Array Keyed) : mergeHi' a b = (do
  rule "list.sort.merge-hi"
  let total := a.size + b.size
  let done (out : Array Keyed) (na nb : Nat) := a.extract 0 na ++ b.extract 0 nb ++ out.reverse
  let firstOfB (out : Array Keyed) (na nb : Nat) := b.extract 0 nb ++ a.extract 0 na ++ out.reverse
  let mut na := a.size - 1
  let mut nb := b.size
  let mut out : Array Keyed := #[← elem' a na]
  if na == 0 then return done out na nb
  if nb == 1 then return firstOfB out na nb
  let mut minGallop := gallopOf (← get)
  for _ in [0:total] do
    let mut acount := 0
    let mut bcount := 0
    for _ in [0:total] do
      let some aWins ← lt' (← elem' b (nb - 1)) (← elem' a (na - 1)) | return done out na nb
      if aWins then
        na := na - 1; out := out.push (← elem' a na); acount := acount + 1; bcount := 0
        if na == 0 then return done out na nb
        if acount ≥ minGallop then break
      else
        nb := nb - 1; out := out.push (← elem' b nb); bcount := bcount + 1; acount := 0
        if nb == 1 then return firstOfB out na nb
        if bcount ≥ minGallop then break
    rule "list.sort.gallop"
    minGallop := minGallop + 1
    for _ in [0:total] do
      if minGallop > 1 then minGallop := minGallop - 1
      setMinGallop' minGallop
      let some at_ ← gallop' false (← elem' b (nb - 1)) a 0 na (na - 1) | return done out na nb
      let k := na - at_
      acount := k
      if k > 0 then
        out := out ++ (a.extract at_ na).reverse; na := at_
        if na == 0 then return done out na nb
      nb := nb - 1; out := out.push (← elem' b nb)
      if nb == 1 then return firstOfB out na nb
      let some at_ ← gallop' true (← elem' a (na - 1)) b 0 nb (nb - 1) | return done out na nb
      let k := nb - at_
      bcount := k
      if k > 0 then
        out := out ++ (b.extract at_ nb).reverse; nb := at_
        if nb == 1 then return firstOfB out na nb
        if nb == 0 then return done out na nb
      na := na - 1; out := out.push (← elem' a na)
      if na == 0 then return done out na nb
      if acount < 7 && bcount < 7 then break
    minGallop := minGallop + 1
    setMinGallop' minGallop
  unsupported "internal:list.sort.merge-bound") := rfl
/-! ### from behind: out holds what of a stands from na on, and what of b from nb on -/
def PH (a b out : Array Keyed) (na nb : Nat) : Prop := out.toList.Perm (a.toList.drop na ++ b.toList.drop nb)
theorem PH.pushA {a b out : Array Keyed} {na nb : Nat} (h : PH a b out na nb) (h1 : 1 ≤ na) (hi : na - 1 < a.size) : PH a b (out.push a[na - 1]) (na - 1) nb := by
  unfold PH at h ⊢
  have e : a.toList.drop (na - 1) = a[na - 1] :: a.toList.drop na := by
    have := List.drop_eq_getElem_cons (l := a.toList) (i := na - 1) (by simpa using hi)
    rw [this, Nat.sub_add_cancel h1]
    simp
  rw [Array.toList_push, e]
  refine (h.append_right _).trans ?_
  exact List.perm_append_comm
theorem PH.pushB {a b out : Array Keyed} {na nb : Nat} (h : PH a b out na nb) (h1 : 1 ≤ nb) (hi : nb - 1 < b.size) : PH a b (out.push b[nb - 1]) na (nb - 1) := by
  unfold PH at h ⊢
  have e : b.toList.drop (nb - 1) = b[nb - 1] :: b.toList.drop nb := by
    have := List.drop_eq_getElem_cons (l := b.toList) (i := nb - 1) (by simpa using hi)
    rw [this, Nat.sub_add_cancel h1]
    simp
  rw [Array.toList_push, e]
  refine (h.append_right _).trans ?_
  rw [List.append_assoc]
  exact List.Perm.append_left _ List.perm_append_comm
theorem drop_cut {l : List Keyed} {i j : Nat} (h : i ≤ j) : l.drop i = (l.drop i).take (j - i) ++ l.drop j := by
  have := (List.take_append_drop (j - i) (l.drop i)).symm
  rw [List.drop_drop, show i + (j - i) = j by omega] at this
  exact this
theorem PH.appA {a b out : Array Keyed} {na nb : Nat} (h : PH a b out na nb) {k : Nat} (hk : k ≤ na) : PH a b (out ++ (a.extract k na).reverse) k nb := by
  unfold PH at h ⊢
  rw [Array.toList_append, Array.toList_reverse, ext_list]
  conv => rhs; rw [drop_cut hk]
  refine ((h.append_left _).trans ?_ |> fun z => (List.Perm.trans List.perm_append_comm ((List.reverse_perm _).append_right _)).trans z)
  rw [List.append_assoc]
theorem PH.appB {a b out : Array Keyed} {na nb : Nat} (h : PH a b out na nb) {k : Nat} (hk : k ≤ nb) : PH a b (out ++ (b.extract k nb).reverse) na k := by
  unfold PH at h ⊢
  rw [Array.toList_append, Array.toList_reverse, ext_list]
  conv => rhs; rw [drop_cut hk]
  refine (h.append_right _).trans ?_
  rw [List.append_assoc]
  refine List.Perm.append_left _ ?_
  exact List.perm_append_comm.trans ((List.reverse_perm _).append_right _)
theorem ext0 {a : Array Keyed} {j : Nat} : (a.extract 0 j).toList = a.toList.take j := by rw [ext_list, List.drop_zero, Nat.sub_zero]
theorem PH.done {a b out : Array Keyed} {na nb : Nat} (h : PH a b out na nb) : (a.extract 0 na ++ b.extract 0 nb ++ out.reverse).Perm (a ++ b) := by
  rw [Array.perm_iff_toList_perm]
  unfold PH at h
  rw [Array.toList_append, Array.toList_append, Array.toList_append, Array.toList_reverse, ext0, ext0]
  conv => rhs; rw [← List.take_append_drop na a.toList, ← List.take_append_drop nb b.toList]
  refine (List.Perm.append_left _ ((List.reverse_perm _).trans h)).trans ?_
  rw [List.append_assoc, List.append_assoc]
  refine List.Perm.append_left _ ?_
  rw [← List.append_assoc, ← List.append_assoc]
  exact List.Perm.append_right _ List.perm_append_comm
theorem PH.first {a b out : Array Keyed} {na nb : Nat} (h : PH a b out na nb) : (b.extract 0 nb ++ a.extract 0 na ++ out.reverse).Perm (a ++ b) := by
  refine Array.Perm.trans ?_ h.done
  rw [Array.perm_iff_toList_perm]
  rw [Array.toList_append, Array.toList_append, Array.toList_append, Array.toList_append]
  exact List.Perm.append_right _ List.perm_append_comm
section
variable {prog : Program} {w : World} {A : Around} {E : Value → Shared → Prop} {s : Shared} {κ : SortKind} {a₀ : Array Keyed} {pd : Array (Nat × Nat × Nat)} {ar : Array Keyed}
theorem wpS_mergeHi {st : SortSt} {a b : Array Keyed} {Q : Array Keyed → SortSt → Prop} (hC : Cmp prog w A s κ a₀) (hB : SM κ ar pd st) (ha : ∀ x ∈ a.toList, x ∈ a₀.toList) (hb : ∀ x ∈ b.toList, x ∈ a₀.toList) (a1 : 1 ≤ a.size) (b1 : 1 ≤ b.size)
    (h : ∀ out st', out.Perm (a ++ b) → SM κ ar pd st' → Q out st') : wpS (model prog w) A E s (mergeHi' a b) Q st := by
  rw [mergeHi'_eq]
  refine wpS_bind (wpS_lift (wpAny_rule ⟨rfl, ?_⟩))
  refine wpS_bind (wpS_elem (getElem?_pos a (a.size - 1) (by omega)) ?_)
  dsimp only
  have p0 : PH a b #[a[a.size - 1]] (a.size - 1) b.size := by
    have : PH a b #[] a.size b.size := by unfold PH; simp
    exact this.pushA a1 (by omega)
  by_cases e1 : (a.size - 1 == 0) = true
  · rw [if_pos e1]
    exact wpS_pure (h _ _ p0.done hB)
  rw [if_neg e1]
  have n1 : ¬ (a.size - 1 = 0) := by simpa using e1
  by_cases e2 : (b.size == 1) = true
  · rw [if_pos e2]
    exact wpS_pure (h _ _ p0.first hB)
  rw [if_neg e2]
  have n2 : ¬ (b.size = 1) := by simpa using e2
  refine wpS_bind (wpS_get ?_)
  refine wpS_bind (wpS_mono (wpS_forRange (I := fun i c st' => SM κ ar pd st' ∧ ∃ na nb out mg, c = (none, na, nb, out, mg) ∧ PH a b out na nb ∧ 1 ≤ na ∧ 2 ≤ nb ∧ na ≤ a.size ∧ nb ≤ b.size ∧ i + na + nb ≤ a.size + b.size) (Q := fun c st' => SM κ ar pd st' ∧ ∃ r c', c = (some r, c') ∧ r.Perm (a ++ b)) ?_ ?_ ⟨hB, _, _, _, _, rfl, p0, by omega, by omega, by omega, by omega, by omega⟩) ?_)
  · rintro i c st1 _ hi ⟨hB0, na, nb, out, mg, rfl, p1, la, lb, ma, mb, li⟩
    dsimp only
    refine wpS_bind (wpS_mono (wpS_forRange (I := fun x c st' => SM κ ar pd st' ∧ ∃ na nb out ac bc, c = (none, na, nb, out, ac, bc) ∧ PH a b out na nb ∧ 1 ≤ na ∧ 2 ≤ nb ∧ na ≤ a.size ∧ nb ≤ b.size ∧ i + x + na + nb ≤ a.size + b.size) (Q := fun c st' => SM κ ar pd st' ∧ ((∃ r c', c = (some r, c') ∧ r.Perm (a ++ b)) ∨ ∃ na nb out ac bc, c = (none, na, nb, out, ac, bc) ∧ PH a b out na nb ∧ 1 ≤ na ∧ 2 ≤ nb ∧ na ≤ a.size ∧ nb ≤ b.size ∧ i + 1 + na + nb ≤ a.size + b.size)) ?_ ?_ ⟨hB0, _, _, _, _, _, rfl, p1, la, lb, ma, mb, by omega⟩) ?_)
    · rintro x c st2 _ hx ⟨hB1, na, nb, out, ac, bc, rfl, p1, la, lb, ma, mb, li⟩
      dsimp only
      refine wpS_bind (wpS_elem (getElem?_pos b (nb - 1) (by omega)) ?_)
      refine wpS_bind (wpS_elem (getElem?_pos a (na - 1) (by omega)) ?_)
      refine wpS_bind (wpS_lt hC hB1.kind (hb _ (by simp)) (ha _ (by simp)) fun aw => ?_)
      cases aw
      · dsimp only
        rw [if_neg (by decide)]
        refine wpS_bind (wpS_elem (getElem?_pos b (nb - 1) (by omega)) ?_)
        have p2 := p1.pushB (show 1 ≤ nb by omega) (show nb - 1 < b.size by omega)
        by_cases f1 : (nb - 1 == 1) = true
        · rw [if_pos f1]; exact wpS_pure ⟨hB1, .inl ⟨_, _, rfl, p2.first⟩⟩
        rw [if_neg f1]
        have g1 : ¬ (nb - 1 = 1) := by simpa using f1
        split
        · exact wpS_pure ⟨hB1, .inr ⟨_, _, _, _, _, rfl, p2, by omega, by omega, by omega, by omega, by omega⟩⟩
        · exact wpS_pure ⟨hB1, _, _, _, _, _, rfl, p2, by omega, by omega, by omega, by omega, by omega⟩
      · dsimp only
        rw [if_pos rfl]
        refine wpS_bind (wpS_elem (getElem?_pos a (na - 1) (by omega)) ?_)
        have p2 := p1.pushA (show 1 ≤ na by omega) (show na - 1 < a.size by omega)
        by_cases f1 : (na - 1 == 0) = true
        · rw [if_pos f1]; exact wpS_pure ⟨hB1, .inl ⟨_, _, rfl, p2.done⟩⟩
        rw [if_neg f1]
        have g1 : ¬ (na - 1 = 0) := by simpa using f1
        split
        · exact wpS_pure ⟨hB1, .inr ⟨_, _, _, _, _, rfl, p2, by omega, by omega, by omega, by omega, by omega⟩⟩
        · exact wpS_pure ⟨hB1, _, _, _, _, _, rfl, p2, by omega, by omega, by omega, by omega, by omega⟩
    · rintro c st2 ⟨hB1, na, nb, out, ac, bc, rfl, p1, la, lb, ma, mb, li⟩
      exact ⟨hB1, .inr ⟨_, _, _, _, _, rfl, p1, la, lb, ma, mb, by omega⟩⟩
    · rintro c st2 ⟨hB1, ⟨r, c', rfl, hp⟩ | ⟨na, nb, out, ac, bc, rfl, p1, la, lb, ma, mb, li⟩⟩
      · exact wpS_pure ⟨hB1, _, _, rfl, hp⟩
      · dsimp only
        refine wpS_bind (wpS_lift (wpAny_rule ⟨rfl, ?_⟩))
        refine wpS_bind (wpS_mono (wpS_forRange (I := fun x c st' => SM κ ar pd st' ∧ ∃ na nb out mg ac bc, c = (none, na, nb, out, mg, ac, bc) ∧ PH a b out na nb ∧ 1 ≤ na ∧ 2 ≤ nb ∧ na ≤ a.size ∧ nb ≤ b.size ∧ i + 1 + na + nb ≤ a.size + b.size) (Q := fun c st' => SM κ ar pd st' ∧ ((∃ r c', c = (some r, c') ∧ r.Perm (a ++ b)) ∨ ∃ na nb out mg ac bc, c = (none, na, nb, out, mg, ac, bc) ∧ PH a b out na nb ∧ 1 ≤ na ∧ 2 ≤ nb ∧ na ≤ a.size ∧ nb ≤ b.size ∧ i + 1 + na + nb ≤ a.size + b.size)) ?_ ?_ ⟨hB1, _, _, _, _, _, _, rfl, p1, la, lb, ma, mb, li⟩) ?_)
        · rintro x c st2 _ hx ⟨hB1, na, nb, out, mg, ac, bc, rfl, p1, la, lb, ma, mb, li⟩
          dsimp only
          by_cases hmg : mg > 1
          · rw [if_pos hmg]
            rw [setMinGallop'_eq]
            refine wpS_bind (wpS_modify ?_)
            refine wpS_bind (wpS_elem (getElem?_pos b (nb - 1) (by omega)) ?_)
            have hB2 : SM κ ar pd (SortSt.mk' (kindOf st2) (arrOf st2) (pendingOf st2) (mg - 1) (failedOf st2)) := ⟨hB1.arr, hB1.kind, hB1.failed, hB1.pend⟩
            refine wpS_bind (wpS_gallop hC hB2.kind (hb _ (by simp)) ha (by omega) (by omega) fun k hk => ?_)
            dsimp only
            by_cases kp : na - k > 0
            · rw [if_pos kp]
              have p2 := p1.appA hk
              by_cases f4 : (k == 0) = true
              · rw [if_pos f4]; exact wpS_pure ⟨hB2, .inl ⟨_, _, rfl, p2.done⟩⟩
              rw [if_neg f4]
              have g4 : ¬ (k = 0) := by simpa using f4
              refine wpS_bind (wpS_elem (getElem?_pos b (nb - 1) (by omega)) ?_)
              have pb := p2.pushB (show 1 ≤ nb by omega) (show nb - 1 < b.size by omega)
              by_cases f1 : (nb - 1 == 1) = true
              · rw [if_pos f1]; exact wpS_pure ⟨hB2, .inl ⟨_, _, rfl, pb.first⟩⟩
              rw [if_neg f1]
              have g1 : ¬ (nb - 1 = 1) := by simpa using f1
              refine wpS_bind (wpS_elem (getElem?_pos a (k - 1) (by omega)) ?_)
              refine wpS_bind (wpS_gallop hC hB2.kind (ha _ (by simp)) hb (by omega) (by omega) fun k2 hk2 => ?_)
              dsimp only
              by_cases k2p : nb - 1 - k2 > 0
              · rw [if_pos k2p]
                have pb2 := pb.appB hk2
                by_cases f2 : (k2 == 1) = true
                · rw [if_pos f2]; exact wpS_pure ⟨hB2, .inl ⟨_, _, rfl, pb2.first⟩⟩
                rw [if_neg f2]
                have g2 : ¬ (k2 = 1) := by simpa using f2
                by_cases f6 : (k2 == 0) = true
                · rw [if_pos f6]; exact wpS_pure ⟨hB2, .inl ⟨_, _, rfl, pb2.done⟩⟩
                rw [if_neg f6]
                have g6 : ¬ (k2 = 0) := by simpa using f6
                refine wpS_bind (wpS_elem (getElem?_pos a (k - 1) (by omega)) ?_)
                have pc := pb2.pushA (show 1 ≤ k by omega) (show k - 1 < a.size by omega)
                by_cases f3 : (k - 1 == 0) = true
                · rw [if_pos f3]; exact wpS_pure ⟨hB2, .inl ⟨_, _, rfl, pc.done⟩⟩
                rw [if_neg f3]
                have g3 : ¬ (k - 1 = 0) := by simpa using f3
                split
                · exact wpS_pure ⟨hB2, .inr ⟨_, _, _, _, _, _, rfl, pc, by omega, by omega, by omega, by omega, by omega⟩⟩
                · exact wpS_pure ⟨hB2, ⟨_, _, _, _, _, _, rfl, pc, by omega, by omega, by omega, by omega, by omega⟩⟩
              · rw [if_neg k2p]
                refine wpS_bind (wpS_elem (getElem?_pos a (k - 1) (by omega)) ?_)
                have pc := pb.pushA (show 1 ≤ k by omega) (show k - 1 < a.size by omega)
                by_cases f3 : (k - 1 == 0) = true
                · rw [if_pos f3]; exact wpS_pure ⟨hB2, .inl ⟨_, _, rfl, pc.done⟩⟩
                rw [if_neg f3]
                have g3 : ¬ (k - 1 = 0) := by simpa using f3
                split
                · exact wpS_pure ⟨hB2, .inr ⟨_, _, _, _, _, _, rfl, pc, by omega, by omega, by omega, by omega, by omega⟩⟩
                · exact wpS_pure ⟨hB2, ⟨_, _, _, _, _, _, rfl, pc, by omega, by omega, by omega, by omega, by omega⟩⟩
            · rw [if_neg kp]
              refine wpS_bind (wpS_elem (getElem?_pos b (nb - 1) (by omega)) ?_)
              have pb := p1.pushB (show 1 ≤ nb by omega) (show nb - 1 < b.size by omega)
              by_cases f1 : (nb - 1 == 1) = true
              · rw [if_pos f1]; exact wpS_pure ⟨hB2, .inl ⟨_, _, rfl, pb.first⟩⟩
              rw [if_neg f1]
              have g1 : ¬ (nb - 1 = 1) := by simpa using f1
              refine wpS_bind (wpS_elem (getElem?_pos a (na - 1) (by omega)) ?_)
              refine wpS_bind (wpS_gallop hC hB2.kind (ha _ (by simp)) hb (by omega) (by omega) fun k2 hk2 => ?_)
              dsimp only
              by_cases k2p : nb - 1 - k2 > 0
              · rw [if_pos k2p]
                have pb2 := pb.appB hk2
                by_cases f2 : (k2 == 1) = true
                · rw [if_pos f2]; exact wpS_pure ⟨hB2, .inl ⟨_, _, rfl, pb2.first⟩⟩
                rw [if_neg f2]
                have g2 : ¬ (k2 = 1) := by simpa using f2
                by_cases f6 : (k2 == 0) = true
                · rw [if_pos f6]; exact wpS_pure ⟨hB2, .inl ⟨_, _, rfl, pb2.done⟩⟩
                rw [if_neg f6]
                have g6 : ¬ (k2 = 0) := by simpa using f6
                refine wpS_bind (wpS_elem (getElem?_pos a (na - 1) (by omega)) ?_)
                have pc := pb2.pushA (show 1 ≤ na by omega) (show na - 1 < a.size by omega)
                by_cases f3 : (na - 1 == 0) = true
                · rw [if_pos f3]; exact wpS_pure ⟨hB2, .inl ⟨_, _, rfl, pc.done⟩⟩
                rw [if_neg f3]
                have g3 : ¬ (na - 1 = 0) := by simpa using f3
                split
                · exact wpS_pure ⟨hB2, .inr ⟨_, _, _, _, _, _, rfl, pc, by omega, by omega, by omega, by omega, by omega⟩⟩
                · exact wpS_pure ⟨hB2, ⟨_, _, _, _, _, _, rfl, pc, by omega, by omega, by omega, by omega, by omega⟩⟩
              · rw [if_neg k2p]
                refine wpS_bind (wpS_elem (getElem?_pos a (na - 1) (by omega)) ?_)
                have pc := pb.pushA (show 1 ≤ na by omega) (show na - 1 < a.size by omega)
                by_cases f3 : (na - 1 == 0) = true
                · rw [if_pos f3]; exact wpS_pure ⟨hB2, .inl ⟨_, _, rfl, pc.done⟩⟩
                rw [if_neg f3]
                have g3 : ¬ (na - 1 = 0) := by simpa using f3
                split
                · exact wpS_pure ⟨hB2, .inr ⟨_, _, _, _, _, _, rfl, pc, by omega, by omega, by omega, by omega, by omega⟩⟩
                · exact wpS_pure ⟨hB2, ⟨_, _, _, _, _, _, rfl, pc, by omega, by omega, by omega, by omega, by omega⟩⟩
          · rw [if_neg hmg]
            rw [setMinGallop'_eq]
            refine wpS_bind (wpS_modify ?_)
            refine wpS_bind (wpS_elem (getElem?_pos b (nb - 1) (by omega)) ?_)
            have hB2 : SM κ ar pd (SortSt.mk' (kindOf st2) (arrOf st2) (pendingOf st2) mg (failedOf st2)) := ⟨hB1.arr, hB1.kind, hB1.failed, hB1.pend⟩
            refine wpS_bind (wpS_gallop hC hB2.kind (hb _ (by simp)) ha (by omega) (by omega) fun k hk => ?_)
            dsimp only
            by_cases kp : na - k > 0
            · rw [if_pos kp]
              have p2 := p1.appA hk
              by_cases f4 : (k == 0) = true
              · rw [if_pos f4]; exact wpS_pure ⟨hB2, .inl ⟨_, _, rfl, p2.done⟩⟩
              rw [if_neg f4]
              have g4 : ¬ (k = 0) := by simpa using f4
              refine wpS_bind (wpS_elem (getElem?_pos b (nb - 1) (by omega)) ?_)
              have pb := p2.pushB (show 1 ≤ nb by omega) (show nb - 1 < b.size by omega)
              by_cases f1 : (nb - 1 == 1) = true
              · rw [if_pos f1]; exact wpS_pure ⟨hB2, .inl ⟨_, _, rfl, pb.first⟩⟩
              rw [if_neg f1]
              have g1 : ¬ (nb - 1 = 1) := by simpa using f1
              refine wpS_bind (wpS_elem (getElem?_pos a (k - 1) (by omega)) ?_)
              refine wpS_bind (wpS_gallop hC hB2.kind (ha _ (by simp)) hb (by omega) (by omega) fun k2 hk2 => ?_)
              dsimp only
              by_cases k2p : nb - 1 - k2 > 0
              · rw [if_pos k2p]
                have pb2 := pb.appB hk2
                by_cases f2 : (k2 == 1) = true
                · rw [if_pos f2]; exact wpS_pure ⟨hB2, .inl ⟨_, _, rfl, pb2.first⟩⟩
                rw [if_neg f2]
                have g2 : ¬ (k2 = 1) := by simpa using f2
                by_cases f6 : (k2 == 0) = true
                · rw [if_pos f6]; exact wpS_pure ⟨hB2, .inl ⟨_, _, rfl, pb2.done⟩⟩
                rw [if_neg f6]
                have g6 : ¬ (k2 = 0) := by simpa using f6
                refine wpS_bind (wpS_elem (getElem?_pos a (k - 1) (by omega)) ?_)
                have pc := pb2.pushA (show 1 ≤ k by omega) (show k - 1 < a.size by omega)
                by_cases f3 : (k - 1 == 0) = true
                · rw [if_pos f3]; exact wpS_pure ⟨hB2, .inl ⟨_, _, rfl, pc.done⟩⟩
                rw [if_neg f3]
                have g3 : ¬ (k - 1 = 0) := by simpa using f3
                split
                · exact wpS_pure ⟨hB2, .inr ⟨_, _, _, _, _, _, rfl, pc, by omega, by omega, by omega, by omega, by omega⟩⟩
                · exact wpS_pure ⟨hB2, ⟨_, _, _, _, _, _, rfl, pc, by omega, by omega, by omega, by omega, by omega⟩⟩
              · rw [if_neg k2p]
                refine wpS_bind (wpS_elem (getElem?_pos a (k - 1) (by omega)) ?_)
                have pc := pb.pushA (show 1 ≤ k by omega) (show k - 1 < a.size by omega)
                by_cases f3 : (k - 1 == 0) = true
                · rw [if_pos f3]; exact wpS_pure ⟨hB2, .inl ⟨_, _, rfl, pc.done⟩⟩
                rw [if_neg f3]
                have g3 : ¬ (k - 1 = 0) := by simpa using f3
                split
                · exact wpS_pure ⟨hB2, .inr ⟨_, _, _, _, _, _, rfl, pc, by omega, by omega, by omega, by omega, by omega⟩⟩
                · exact wpS_pure ⟨hB2, ⟨_, _, _, _, _, _, rfl, pc, by omega, by omega, by omega, by omega, by omega⟩⟩
            · rw [if_neg kp]
              refine wpS_bind (wpS_elem (getElem?_pos b (nb - 1) (by omega)) ?_)
              have pb := p1.pushB (show 1 ≤ nb by omega) (show nb - 1 < b.size by omega)
              by_cases f1 : (nb - 1 == 1) = true
              · rw [if_pos f1]; exact wpS_pure ⟨hB2, .inl ⟨_, _, rfl, pb.first⟩⟩
              rw [if_neg f1]
              have g1 : ¬ (nb - 1 = 1) := by simpa using f1
              refine wpS_bind (wpS_elem (getElem?_pos a (na - 1) (by omega)) ?_)
              refine wpS_bind (wpS_gallop hC hB2.kind (ha _ (by simp)) hb (by omega) (by omega) fun k2 hk2 => ?_)
              dsimp only
              by_cases k2p : nb - 1 - k2 > 0
              · rw [if_pos k2p]
                have pb2 := pb.appB hk2
                by_cases f2 : (k2 == 1) = true
                · rw [if_pos f2]; exact wpS_pure ⟨hB2, .inl ⟨_, _, rfl, pb2.first⟩⟩
                rw [if_neg f2]
                have g2 : ¬ (k2 = 1) := by simpa using f2
                by_cases f6 : (k2 == 0) = true
                · rw [if_pos f6]; exact wpS_pure ⟨hB2, .inl ⟨_, _, rfl, pb2.done⟩⟩
                rw [if_neg f6]
                have g6 : ¬ (k2 = 0) := by simpa using f6
                refine wpS_bind (wpS_elem (getElem?_pos a (na - 1) (by omega)) ?_)
                have pc := pb2.pushA (show 1 ≤ na by omega) (show na - 1 < a.size by omega)
                by_cases f3 : (na - 1 == 0) = true
                · rw [if_pos f3]; exact wpS_pure ⟨hB2, .inl ⟨_, _, rfl, pc.done⟩⟩
                rw [if_neg f3]
                have g3 : ¬ (na - 1 = 0) := by simpa using f3
                split
                · exact wpS_pure ⟨hB2, .inr ⟨_, _, _, _, _, _, rfl, pc, by omega, by omega, by omega, by omega, by omega⟩⟩
                · exact wpS_pure ⟨hB2, ⟨_, _, _, _, _, _, rfl, pc, by omega, by omega, by omega, by omega, by omega⟩⟩
              · rw [if_neg k2p]
                refine wpS_bind (wpS_elem (getElem?_pos a (na - 1) (by omega)) ?_)
                have pc := pb.pushA (show 1 ≤ na by omega) (show na - 1 < a.size by omega)
                by_cases f3 : (na - 1 == 0) = true
                · rw [if_pos f3]; exact wpS_pure ⟨hB2, .inl ⟨_, _, rfl, pc.done⟩⟩
                rw [if_neg f3]
                have g3 : ¬ (na - 1 = 0) := by simpa using f3
                split
                · exact wpS_pure ⟨hB2, .inr ⟨_, _, _, _, _, _, rfl, pc, by omega, by omega, by omega, by omega, by omega⟩⟩
                · exact wpS_pure ⟨hB2, ⟨_, _, _, _, _, _, rfl, pc, by omega, by omega, by omega, by omega, by omega⟩⟩
        · rintro c st2 ⟨hB1, hh⟩
          exact ⟨hB1, .inr hh⟩
        · rintro c st2 ⟨hB1, ⟨r, c', rfl, hp⟩ | ⟨na, nb, out, mg, ac, bc, rfl, p1, la, lb, ma, mb, li⟩⟩
          · exact wpS_pure ⟨hB1, _, _, rfl, hp⟩
          · dsimp only
            rw [setMinGallop'_eq]
            refine wpS_bind (wpS_modify ?_)
            exact wpS_pure ⟨⟨hB1.arr, hB1.kind, hB1.failed, hB1.pend⟩, _, _, _, _, rfl, p1, la, lb, ma, mb, li⟩
  · rintro c st1 ⟨hB0, na, nb, out, mg, rfl, p1, la, lb, ma, mb, li⟩
    omega
  · rintro c st1 ⟨hB0, r, c', rfl, hp⟩
    exact wpS_pure (h r st1 hp hB0)
end
end PyProof.Rows

set_option maxHeartbeats 1500000
namespace PyProof.Rows
open PySem
section
variable {prog : Program} {w : World} {A : Around} {E : Value → Shared → Prop} {s : Shared} {κ : SortKind} {a₀ : Array Keyed} {pd : Array (Nat × Nat × Nat)}
theorem wpS_count {st : SortSt} {lo nrem : Nat} {Q : Option Nat → SortSt → Prop} (hC : Cmp prog w A s κ a₀) (hn : lo + nrem ≤ a₀.size) (h1 : 1 ≤ nrem) (hB : SQ κ a₀ pd st) (h : ∀ n st', SQ κ a₀ pd st' → 1 ≤ n → n ≤ nrem → Q (some n) st') : wpS (model prog w) A E s (countRun' lo nrem) Q st := by
  rw [countRun'_eq]
  refine wpS_bind (wpS_mono (wpS_forRange (I := fun i c st' => SQ κ a₀ pd st' ∧ ∃ m, c = (none, m) ∧ m = i) (Q := fun c st' => SQ κ a₀ pd st' ∧ ∃ m, c = (none, m) ∧ 1 ≤ m ∧ m ≤ nrem) ?_ ?_ ⟨hB, _, rfl, rfl⟩) ?_)
  · rintro i c st1 hi1 hi2 ⟨hB1, m, rfl, rfl⟩
    dsimp only
    refine wpS_bind (wpS_ltQ hC hB1 (by omega) (by omega) fun b1 => ?_)
    cases b1
    · exact wpS_pure ⟨hB1, _, rfl, rfl⟩
    · exact wpS_pure ⟨hB1, _, rfl, by omega, by omega⟩
  · rintro c st1 ⟨hB1, m, rfl, rfl⟩
    exact ⟨hB1, _, rfl, by omega, by omega⟩
  · rintro c st1 ⟨hB1, n, rfl, n1, n2⟩
    dsimp only
    by_cases e1 : (n == nrem) = true
    · rw [if_pos e1]; exact wpS_pure (h n st1 hB1 n1 n2)
    rw [if_neg e1]
    have g1 : ¬ (n = nrem) := by simpa using e1
    by_cases e2 : n > 1
    · rw [if_pos e2]
      refine wpS_bind (wpS_ltQ hC hB1 (by omega) (by omega) fun b2 => ?_)
      cases b2
      · dsimp only
        rw [if_neg (by decide)]
        refine wpS_bind (wpS_rev hB1 fun st2 hB2 => ?_)
        refine wpS_bind (wpS_lift (wpAny_rule ⟨rfl, ?_⟩))
        refine wpS_bind (wpS_mono (wpS_forRange (I := fun i c st' => SQ κ a₀ pd st' ∧ ∃ m q, c = (none, m, q) ∧ m = i) (Q := fun c st' => SQ κ a₀ pd st' ∧ ∃ m q, c = (none, m, q) ∧ 1 ≤ m ∧ m ≤ nrem) ?_ ?_ ⟨hB2, _, _, rfl, rfl⟩) ?_)
        · rintro i c st3 hi1 hi2 ⟨hB3, m, q, rfl, rfl⟩
          dsimp only
          refine wpS_bind (wpS_ltQ hC hB3 (by omega) (by omega) fun b3 => ?_)
          cases b3
          · dsimp only
            rw [if_neg (by decide)]
            refine wpS_bind (wpS_ltQ hC hB3 (by omega) (by omega) fun b4 => ?_)
            cases b4
            · exact wpS_pure ⟨hB3, _, _, rfl, rfl⟩
            · exact wpS_pure ⟨hB3, _, _, rfl, by omega, by omega⟩
          · dsimp only
            rw [if_pos rfl]
            split
            · exact wpS_bind (wpS_rev hB3 fun st4 hB4 => wpS_pure ⟨hB4, _, _, rfl, rfl⟩)
            · exact wpS_pure ⟨hB3, _, _, rfl, rfl⟩
        · rintro c st3 ⟨hB3, m, q, rfl, rfl⟩
          exact ⟨hB3, _, _, rfl, by omega, by omega⟩
        · rintro c st3 ⟨hB3, m, q, rfl, m1, m2⟩
          dsimp only
          split
          · refine wpS_bind (wpS_rev hB3 fun st4 hB4 => ?_)
            refine wpS_bind (wpS_rev hB4 fun st5 hB5 => ?_)
            refine wpS_bind (wpS_mono (wpS_forRange (I := fun i c st' => SQ κ a₀ pd st' ∧ ∃ m, c = (none, m) ∧ m = i) (Q := fun c st' => SQ κ a₀ pd st' ∧ ∃ m, c = (none, m) ∧ 1 ≤ m ∧ m ≤ nrem) ?_ ?_ ⟨hB5, _, rfl, rfl⟩) ?_)
            · rintro i c st6 hi1 hi2 ⟨hB6, m, rfl, rfl⟩
              dsimp only
              refine wpS_bind (wpS_ltQ hC hB6 (by omega) (by omega) fun b6 => ?_)
              cases b6
              · exact wpS_pure ⟨hB6, _, rfl, rfl⟩
              · exact wpS_pure ⟨hB6, _, rfl, by omega, by omega⟩
            · rintro c st6 ⟨hB6, m, rfl, rfl⟩
              exact ⟨hB6, _, rfl, by omega, by omega⟩
            · rintro c st6 ⟨hB6, m, rfl, h1, h2⟩
              exact wpS_pure (h m st6 hB6 h1 h2)
          · refine wpS_bind (wpS_rev hB3 fun st5 hB5 => ?_)
            refine wpS_bind (wpS_mono (wpS_forRange (I := fun i c st' => SQ κ a₀ pd st' ∧ ∃ m, c = (none, m) ∧ m = i) (Q := fun c st' => SQ κ a₀ pd st' ∧ ∃ m, c = (none, m) ∧ 1 ≤ m ∧ m ≤ nrem) ?_ ?_ ⟨hB5, _, rfl, rfl⟩) ?_)
            · rintro i c st6 hi1 hi2 ⟨hB6, m, rfl, rfl⟩
              dsimp only
              refine wpS_bind (wpS_ltQ hC hB6 (by omega) (by omega) fun b6 => ?_)
              cases b6
              · exact wpS_pure ⟨hB6, _, rfl, rfl⟩
              · exact wpS_pure ⟨hB6, _, rfl, by omega, by omega⟩
            · rintro c st6 ⟨hB6, m, rfl, rfl⟩
              exact ⟨hB6, _, rfl, by omega, by omega⟩
            · rintro c st6 ⟨hB6, m, rfl, h1, h2⟩
              exact wpS_pure (h m st6 hB6 h1 h2)
      · exact wpS_pure (h n st1 hB1 n1 n2)
    · rw [if_neg e2]
      have hB2 := hB1
      refine wpS_bind (wpS_lift (wpAny_rule ⟨rfl, ?_⟩))
      refine wpS_bind (wpS_mono (wpS_forRange (I := fun i c st' => SQ κ a₀ pd st' ∧ ∃ m q, c = (none, m, q) ∧ m = i) (Q := fun c st' => SQ κ a₀ pd st' ∧ ∃ m q, c = (none, m, q) ∧ 1 ≤ m ∧ m ≤ nrem) ?_ ?_ ⟨hB2, _, _, rfl, rfl⟩) ?_)
      · rintro i c st3 hi1 hi2 ⟨hB3, m, q, rfl, rfl⟩
        dsimp only
        refine wpS_bind (wpS_ltQ hC hB3 (by omega) (by omega) fun b3 => ?_)
        cases b3
        · dsimp only
          rw [if_neg (by decide)]
          refine wpS_bind (wpS_ltQ hC hB3 (by omega) (by omega) fun b4 => ?_)
          cases b4
          · exact wpS_pure ⟨hB3, _, _, rfl, rfl⟩
          · exact wpS_pure ⟨hB3, _, _, rfl, by omega, by omega⟩
        · dsimp only
          rw [if_pos rfl]
          split
          · exact wpS_bind (wpS_rev hB3 fun st4 hB4 => wpS_pure ⟨hB4, _, _, rfl, rfl⟩)
          · exact wpS_pure ⟨hB3, _, _, rfl, rfl⟩
      · rintro c st3 ⟨hB3, m, q, rfl, rfl⟩
        exact ⟨hB3, _, _, rfl, by omega, by omega⟩
      · rintro c st3 ⟨hB3, m, q, rfl, m1, m2⟩
        dsimp only
        split
        · refine wpS_bind (wpS_rev hB3 fun st4 hB4 => ?_)
          refine wpS_bind (wpS_rev hB4 fun st5 hB5 => ?_)
          refine wpS_bind (wpS_mono (wpS_forRange (I := fun i c st' => SQ κ a₀ pd st' ∧ ∃ m, c = (none, m) ∧ m = i) (Q := fun c st' => SQ κ a₀ pd st' ∧ ∃ m, c = (none, m) ∧ 1 ≤ m ∧ m ≤ nrem) ?_ ?_ ⟨hB5, _, rfl, rfl⟩) ?_)
          · rintro i c st6 hi1 hi2 ⟨hB6, m, rfl, rfl⟩
            dsimp only
            refine wpS_bind (wpS_ltQ hC hB6 (by omega) (by omega) fun b6 => ?_)
            cases b6
            · exact wpS_pure ⟨hB6, _, rfl, rfl⟩
            · exact wpS_pure ⟨hB6, _, rfl, by omega, by omega⟩
          · rintro c st6 ⟨hB6, m, rfl, rfl⟩
            exact ⟨hB6, _, rfl, by omega, by omega⟩
          · rintro c st6 ⟨hB6, m, rfl, h1, h2⟩
            exact wpS_pure (h m st6 hB6 h1 h2)
        · refine wpS_bind (wpS_rev hB3 fun st5 hB5 => ?_)
          refine wpS_bind (wpS_mono (wpS_forRange (I := fun i c st' => SQ κ a₀ pd st' ∧ ∃ m, c = (none, m) ∧ m = i) (Q := fun c st' => SQ κ a₀ pd st' ∧ ∃ m, c = (none, m) ∧ 1 ≤ m ∧ m ≤ nrem) ?_ ?_ ⟨hB5, _, rfl, rfl⟩) ?_)
          · rintro i c st6 hi1 hi2 ⟨hB6, m, rfl, rfl⟩
            dsimp only
            refine wpS_bind (wpS_ltQ hC hB6 (by omega) (by omega) fun b6 => ?_)
            cases b6
            · exact wpS_pure ⟨hB6, _, rfl, rfl⟩
            · exact wpS_pure ⟨hB6, _, rfl, by omega, by omega⟩
          · rintro c st6 ⟨hB6, m, rfl, rfl⟩
            exact ⟨hB6, _, rfl, by omega, by omega⟩
          · rintro c st6 ⟨hB6, m, rfl, h1, h2⟩
            exact wpS_pure (h m st6 hB6 h1 h2)
end
end PyProof.Rows

set_option maxHeartbeats 1500000
namespace PyProof.Rows
open PySem
abbrev Run := Nat × Nat × Nat
/-- runs side by side, from s to e -/
def Runs : List Run → Nat → Nat → Prop
  | [], s, e => s = e
  | r :: rs, s, e => r.1 = s ∧ 1 ≤ r.2.1 ∧ Runs rs (s + r.2.1) e
theorem Runs.le : ∀ {l : List Run} {s e : Nat}, Runs l s e → s ≤ e
  | [], _, _, h => Nat.le_of_eq h
  | r :: rs, s, e, ⟨_, h2, h3⟩ => by have := h3.le; omega
theorem Runs.two : ∀ {l : List Run} {s e i : Nat} {x y : Run}, Runs l s e → l[i]? = some x → l[i + 1]? = some y →
    x.1 + x.2.1 = y.1 ∧ y.1 + y.2.1 ≤ e ∧ 1 ≤ x.2.1 ∧ 1 ≤ y.2.1 ∧ ∀ p, Runs ((l.set i (x.1, x.2.1 + y.2.1, p)).eraseIdx (i + 1)) s e
  | r :: q :: rs, s, e, 0, x, y, ⟨h1, h2, h3, h4, h5⟩, hx, hy => by
    obtain rfl := Option.some.inj hx
    obtain rfl := Option.some.inj hy
    have := h5.le
    refine ⟨by omega, by omega, h2, h4, fun p => ⟨h1, by show 1 ≤ r.2.1 + q.2.1; omega, ?_⟩⟩
    show Runs rs (s + (r.2.1 + q.2.1)) e
    rw [← Nat.add_assoc]; exact h5
  | r :: rs, s, e, i + 1, x, y, ⟨h1, h2, h3⟩, hx, hy => by
    obtain ⟨a1, a2, a3, a4, a5⟩ := Runs.two (i := i) h3 hx hy
    exact ⟨a1, a2, a3, a4, fun p => ⟨h1, h2, a5 p⟩⟩
theorem Runs.push : ∀ {l : List Run} {s e n p : Nat}, Runs l s e → 1 ≤ n → Runs (l ++ [(e, n, p)]) s (e + n)
  | [], s, e, n, p, h, hn => ⟨h.symm, hn, by rw [h]; rfl⟩
  | r :: rs, s, e, n, p, ⟨h1, h2, h3⟩, hn => ⟨h1, h2, Runs.push h3 hn⟩
theorem Runs.pw : ∀ {l : List Run} {s e : Nat} (i p : Nat), Runs l s e → Runs (l.modify i fun r => (r.1, r.2.1, p)) s e
  | [], s, e, i, p, h => by cases i <;> exact h
  | r :: rs, s, e, 0, p, ⟨h1, h2, h3⟩ => ⟨h1, h2, h3⟩
  | r :: rs, s, e, i + 1, p, ⟨h1, h2, h3⟩ => ⟨h1, h2, Runs.pw i p h3⟩
theorem wpS_set {M : Model} {A : Around} {E : Value → Shared → Prop} {s : Shared} {σ : Type} {x : σ} {Q : PUnit → σ → Prop} {st : σ} (h : Q ⟨⟩ x) : wpS M A E s (set x : StateT σ Sem PUnit) Q st := by
  unfold wpS; rw [StateT.run_set]; exact wpAny_pure ⟨rfl, h⟩
theorem mergeAt'_eq (i : Nat) : mergeAt' i = (do
  let s ← get
  let (some (sa, na, power), some (sb, nb, _)) := ((pendingOf s)[i]?, (pendingOf s)[i + 1]?) | unsupported "internal:list.sort.pending"
  set (setPending s (((pendingOf s).setIfInBounds i (sa, na + nb, power)).eraseIdxIfInBounds (i + 1)))
  let some k ← gallop' false (← elem' (arrOf s) sb) (arrOf s) sa na 0 | return false
  let (sa, na) := (sa + k, na - k)
  if na == 0 then return true
  let some nb ← gallop' true (← elem' (arrOf s) (sa + na - 1)) (arrOf s) sb nb (nb - 1) | return false
  if nb == 0 then return true
  let x := (arrOf s).extract sa sb
  let y := (arrOf s).extract sb (sb + nb)
  let merged ← if na ≤ nb then mergeLo' x y else mergeHi' x y
  modify fun s => setArr s (merged.toList.zipIdx.foldl (fun a (p, j) => a.setIfInBounds (sa + j) p) (arrOf s))
  return (failedOf (← get)).isNone) := rfl
theorem write_list {sa : Nat} : ∀ (l : List Keyed) (k : Nat) (arr : Array Keyed), sa + k + l.length ≤ arr.size →
    ((l.zipIdx k).foldl (fun (a : Array Keyed) (x : Keyed × Nat) => a.setIfInBounds (sa + x.2) x.1) arr).toList = arr.toList.take (sa + k) ++ l ++ arr.toList.drop (sa + k + l.length)
  | [], k, arr, _ => by simp
  | x :: l, k, arr, h => by
    rw [List.length_cons] at h
    have hs : sa + k < arr.toList.length := by rw [Array.length_toList]; omega
    rw [List.zipIdx_cons, List.foldl_cons, write_list l (k + 1) _ (by rw [Array.size_setIfInBounds]; omega), Array.toList_setIfInBounds]
    dsimp only
    have e1 : (arr.toList.set (sa + k) x).take (sa + (k + 1)) = arr.toList.take (sa + k) ++ [x] := by
      rw [← Nat.add_assoc, List.take_add_one, List.getElem?_set_self hs, List.take_set_of_le (Nat.le_refl _)]
      rfl
    have e2 : (arr.toList.set (sa + k) x).drop (sa + (k + 1) + l.length) = arr.toList.drop (sa + k + (x :: l).length) := by
      rw [List.drop_set_of_lt (by omega), List.length_cons]
      congr 1; omega
    rw [e1, e2, List.append_assoc, List.append_assoc, List.append_assoc]
    rfl
section
variable {prog : Program} {w : World} {A : Around} {E : Value → Shared → Prop} {s : Shared} {κ : SortKind} {a₀ : Array Keyed}
/-- the state between two steps: the items in some order, the runs side by side up to lo -/
def SR (κ : SortKind) (a₀ : Array Keyed) (lo : Nat) (st : SortSt) : Prop := ∃ pd, SQ κ a₀ pd st ∧ Runs pd.toList 0 lo ∧ lo ≤ a₀.size
theorem wpS_mergeAt {st : SortSt} {i lo : Nat} {Q : Bool → SortSt → Prop} (hC : Cmp prog w A s κ a₀) (hB : SR κ a₀ lo st) (hi : i + 1 < (pendingOf st).size) (h : ∀ st', SR κ a₀ lo st' → Q true st') : wpS (model prog w) A E s (mergeAt' i) Q st := by
  obtain ⟨pd, hq, hr, hlo⟩ := hB
  rw [hq.pend] at hi
  rw [mergeAt'_eq]
  refine wpS_bind (wpS_get ?_)
  have e1 : pd[i]? = some pd[i] := getElem?_pos pd i (by omega)
  have e2 : pd[i + 1]? = some pd[i + 1] := getElem?_pos pd (i + 1) hi
  obtain ⟨a1, a2, a3, a4, a5⟩ := hr.two (i := i) (x := pd[i]) (y := pd[i + 1]) (by simpa using e1) (by simpa using e2)
  rw [hq.pend, e1, e2]
  revert a1 a2 a3 a4 a5
  generalize pd[i] = x
  generalize pd[i + 1] = y
  obtain ⟨sa, na, pw⟩ := x
  obtain ⟨sb, nb, pw2⟩ := y
  intro a1 a2 a3 a4 a5
  dsimp only at a1 a2 a3 a4 a5 ⊢
  obtain ⟨pd', hpd'⟩ : ∃ pd', pd' = (pd.setIfInBounds i (sa, na + nb, pw)).eraseIdxIfInBounds (i + 1) := ⟨_, rfl⟩
  have hr' : Runs pd'.toList 0 lo := by
    rw [hpd', Array.toList_eraseIdxIfInBounds, Array.toList_setIfInBounds]
    exact a5 pw
  refine wpS_bind (wpS_set ?_)
  rw [← hpd']
  have hq1 : SM κ (arrOf st) pd' (setPending st pd') := ⟨rfl, hq.kind, hq.failed, rfl⟩
  have hsz := hq.size
  have hin : ∀ x ∈ (arrOf st).toList, x ∈ a₀.toList := fun x hx => (Array.perm_iff_toList_perm.mp hq.perm).mem_iff.mp hx
  have fin : ∀ st', SM κ (arrOf st) pd' st' → SR κ a₀ lo st' := fun st' m => ⟨pd', ⟨by rw [m.arr]; exact hq.perm, m.kind, m.failed, m.pend⟩, hr', hlo⟩
  refine wpS_bind (wpS_elem (getElem?_pos (arrOf st) sb (by omega)) ?_)
  refine wpS_bind (wpS_gallop hC hq1.kind (hin _ (by simp)) hin (by omega) (by omega) fun k hk => ?_)
  dsimp only
  by_cases f1 : (na - k == 0) = true
  · rw [if_pos f1]; exact wpS_pure (h _ (fin _ hq1))
  rw [if_neg f1]
  have g1 : ¬ (na - k = 0) := by simpa using f1
  refine wpS_bind (wpS_elem (getElem?_pos (arrOf st) (sa + k + (na - k) - 1) (by omega)) ?_)
  refine wpS_bind (wpS_gallop hC hq1.kind (hin _ (by simp)) hin (by omega) (by omega) fun k2 hk2 => ?_)
  dsimp only
  by_cases f2 : (k2 == 0) = true
  · rw [if_pos f2]; exact wpS_pure (h _ (fin _ hq1))
  rw [if_neg f2]
  have g2 : ¬ (k2 = 0) := by simpa using f2
  have hx : ∀ x ∈ ((arrOf st).extract (sa + k) sb).toList, x ∈ a₀.toList := fun x hx => hin x (by rw [ext_list] at hx; exact List.mem_of_mem_drop (List.mem_of_mem_take hx))
  have hy : ∀ x ∈ ((arrOf st).extract sb (sb + k2)).toList, x ∈ a₀.toList := fun x hx => hin x (by rw [ext_list] at hx; exact List.mem_of_mem_drop (List.mem_of_mem_take hx))
  have sx : ((arrOf st).extract (sa + k) sb).size = sb - (sa + k) := by rw [Array.size_extract]; omega
  have sy : ((arrOf st).extract sb (sb + k2)).size = k2 := by rw [Array.size_extract]; omega
  have last : ∀ (out : Array Keyed) (st' : SortSt), out.Perm ((arrOf st).extract (sa + k) sb ++ (arrOf st).extract sb (sb + k2)) → SM κ (arrOf st) pd' st' → wpS (model prog w) A E s (do
      modify fun s => setArr s (out.toList.zipIdx.foldl (fun a (p, j) => a.setIfInBounds (sa + k + j) p) (arrOf s))
      return (failedOf (← get)).isNone) Q st' := by
    intro out st' hp m
    refine wpS_bind (wpS_modify ?_)
    refine wpS_bind (wpS_get (wpS_pure ?_))
    have osz : out.toList.length = sb - (sa + k) + k2 := by
      rw [Array.length_toList, hp.size_eq, Array.size_append, sx, sy]
    have wl := write_list (sa := sa + k) out.toList 0 (arrOf st') (by rw [m.arr, osz]; omega)
    have pm : (out.toList.zipIdx.foldl (fun a (p, j) => a.setIfInBounds (sa + k + j) p) (arrOf st')).Perm (arrOf st) := by
      rw [Array.perm_iff_toList_perm]
      refine (List.Perm.of_eq wl).trans ?_
      rw [m.arr, osz, Nat.add_zero]
      have hp' := Array.perm_iff_toList_perm.mp hp
      rw [Array.toList_append, ext_list, ext_list] at hp'
      refine ((hp'.append_left _).append_right _).trans ?_
      have e1 : (arrOf st).toList.drop (sa + k) = ((arrOf st).toList.drop (sa + k)).take (sb - (sa + k)) ++ (arrOf st).toList.drop sb := drop_cut (by omega)
      have e2 : (arrOf st).toList.drop sb = ((arrOf st).toList.drop sb).take (sb + k2 - sb) ++ (arrOf st).toList.drop (sb + k2) := drop_cut (by omega)
      have e3 : sa + k + (sb - (sa + k) + k2) = sb + k2 := by omega
      rw [e3]
      refine List.Perm.of_eq ?_
      conv => rhs; rw [← List.take_append_drop (sa + k) (arrOf st).toList, e1, e2]
      simp only [List.append_assoc]
    have hf : (failedOf st').isNone = true := by rw [m.failed]; rfl
    show Q (failedOf st').isNone _
    rw [hf]
    exact h _ ⟨pd', ⟨pm.trans hq.perm, m.kind, m.failed, m.pend⟩, hr', hlo⟩
  by_cases f3 : na - k ≤ k2
  · rw [if_pos f3]
    exact wpS_bind (wpS_mergeLo hC hq1 hx hy (by omega) (by omega) fun out st' hp m => last out st' hp m)
  · rw [if_neg f3]
    exact wpS_bind (wpS_mergeHi hC hq1 hx hy (by omega) (by omega) fun out st' hp m => last out st' hp m)
end
end PyProof.Rows

set_option maxHeartbeats 1500000
namespace PyProof.Rows
open PySem
section
variable {prog : Program} {w : World} {A : Around} {E : Value → Shared → Prop} {s : Shared} {κ : SortKind} {a₀ : Array Keyed}
theorem ite_pred_le {c : Prop} [Decidable c] {x : Nat} : (if c then x - 1 else x) ≤ x := by split <;> omega
theorem SR.pw {lo : Nat} {st : SortSt} (h : SR κ a₀ lo st) (i p : Nat) : SR κ a₀ lo (setPending st ((pendingOf st).modify i fun r => (r.1, r.2.1, p))) := by
  obtain ⟨pd, hq, hr, hl⟩ := h
  refine ⟨_, ⟨hq.perm, hq.kind, hq.failed, rfl⟩, ?_, hl⟩
  show Runs ((pendingOf st).modify i fun r => (r.1, r.2.1, p)).toList 0 lo
  rw [hq.pend, Array.toList_modify]
  exact hr.pw i p
theorem SR.push {lo n : Nat} {st : SortSt} (h : SR κ a₀ lo st) (h1 : 1 ≤ n) (hn : lo + n ≤ a₀.size) : SR κ a₀ (lo + n) (setPending st ((pendingOf st).push (lo, n, 0))) := by
  obtain ⟨pd, hq, hr, hl⟩ := h
  refine ⟨_, ⟨hq.perm, hq.kind, hq.failed, rfl⟩, ?_, hn⟩
  show Runs ((pendingOf st).push (lo, n, 0)).toList 0 (lo + n)
  rw [hq.pend, Array.toList_push]
  exact hr.push h1
theorem wpS_sorts {st : SortSt} {Q : Unit → SortSt → Prop} (hC : Cmp prog w A s κ a₀) (hp : (arrOf st).Perm a₀) (hk : kindOf st = κ) (hf : failedOf st = none) (hpd : pendingOf st = #[])
    (h : ∀ st', (arrOf st').Perm a₀ → failedOf st' = none → Q () st') : wpS (model prog w) A E s sortRuns' Q st := by
  have h0 : SR κ a₀ 0 st := ⟨#[], ⟨hp, hk, hf, hpd⟩, rfl, Nat.zero_le _⟩
  have hsz : (arrOf st).size = a₀.size := hp.size_eq
  rw [sortRuns'_eq]
  refine wpS_bind (wpS_get ?_)
  dsimp only
  rw [hsz]
  refine wpS_bind (wpS_mono (wpS_forRange (I := fun _ c st' => ∃ lo, c = (none, lo) ∧ SR κ a₀ lo st') (Q := fun c st' => ∃ lo, c = (none, lo) ∧ SR κ a₀ lo st') ?_ (fun c st' hh => hh) ⟨0, rfl, h0⟩) ?_)
  · rintro i c st1 _ _ ⟨lo, rfl, hR⟩
    dsimp only
    by_cases e1 : lo ≥ a₀.size
    · rw [if_pos e1]; exact wpS_pure ⟨lo, rfl, hR⟩
    rw [if_neg e1]
    have hlo : lo < a₀.size := by omega
    obtain ⟨pd, hq, hr, hl⟩ := hR
    refine wpS_bind (wpS_count hC (by omega) (by omega) hq fun n st2 hq2 n1 n2 => ?_)
    dsimp only
    by_cases hm : n < minRun' a₀.size a₀.size 0
    · rw [if_pos hm]
      refine wpS_bind (wpS_lift (wpAny_rule ⟨rfl, ?_⟩))
      refine wpS_bind (wpS_bin hC (by omega) hq2 fun st3 hq3 => ?_)
      simp only [Bool.not_true, Bool.false_eq_true, if_false]
      have hR3 : SR κ a₀ lo st3 := ⟨pd, hq3, hr, hl⟩
      refine wpS_bind (wpS_get ?_)
      cases hb : (pendingOf st3).back? with
      | none =>
        dsimp only
        exact wpS_bind (wpS_modify (wpS_pure ⟨_, rfl, hR3.push (by omega) (by omega)⟩))
      | some r =>
        obtain ⟨s1, n1', pw1⟩ := r
        dsimp only
        refine wpS_bind (wpS_mono (wpS_forRange (I := fun _ c st' => c = (none, ()) ∧ SR κ a₀ lo st') (Q := fun c st' => c = (none, ()) ∧ SR κ a₀ lo st') ?_ (fun c st' hh => hh) ⟨rfl, hR3⟩) ?_)
        · rintro x c st4 _ _ ⟨rfl, hR4⟩
          refine wpS_bind (wpS_get ?_)
          by_cases hs : (pendingOf st4).size > 1
          · rw [if_pos hs, getElem?_pos (pendingOf st4) ((pendingOf st4).size - 2) (by omega)]
            generalize (pendingOf st4)[(pendingOf st4).size - 2] = r4
            obtain ⟨_, _, older⟩ := r4
            dsimp only
            split
            · exact wpS_pure ⟨rfl, hR4⟩
            · refine wpS_bind (wpS_mergeAt hC hR4 (by omega) fun st5 hR5 => ?_)
              simp only [Bool.not_true, Bool.false_eq_true, if_false]
              exact wpS_pure ⟨rfl, hR5⟩
          · rw [if_neg hs]; exact wpS_pure ⟨rfl, hR4⟩
        · rintro c st4 ⟨rfl, hR4⟩
          dsimp only
          exact wpS_bind (wpS_modify (wpS_bind (wpS_modify (wpS_pure ⟨_, rfl, (hR4.pw _ _).push (by omega) (by omega)⟩))))
    · rw [if_neg hm]
      have hR3 : SR κ a₀ lo st2 := ⟨pd, hq2, hr, hl⟩
      refine wpS_bind (wpS_get ?_)
      cases hb : (pendingOf st2).back? with
      | none =>
        dsimp only
        exact wpS_bind (wpS_modify (wpS_pure ⟨_, rfl, hR3.push (by omega) (by omega)⟩))
      | some r =>
        obtain ⟨s1, n1', pw1⟩ := r
        dsimp only
        refine wpS_bind (wpS_mono (wpS_forRange (I := fun _ c st' => c = (none, ()) ∧ SR κ a₀ lo st') (Q := fun c st' => c = (none, ()) ∧ SR κ a₀ lo st') ?_ (fun c st' hh => hh) ⟨rfl, hR3⟩) ?_)
        · rintro x c st4 _ _ ⟨rfl, hR4⟩
          refine wpS_bind (wpS_get ?_)
          by_cases hs : (pendingOf st4).size > 1
          · rw [if_pos hs, getElem?_pos (pendingOf st4) ((pendingOf st4).size - 2) (by omega)]
            generalize (pendingOf st4)[(pendingOf st4).size - 2] = r4
            obtain ⟨_, _, older⟩ := r4
            dsimp only
            split
            · exact wpS_pure ⟨rfl, hR4⟩
            · refine wpS_bind (wpS_mergeAt hC hR4 (by omega) fun st5 hR5 => ?_)
              simp only [Bool.not_true, Bool.false_eq_true, if_false]
              exact wpS_pure ⟨rfl, hR5⟩
          · rw [if_neg hs]; exact wpS_pure ⟨rfl, hR4⟩
        · rintro c st4 ⟨rfl, hR4⟩
          dsimp only
          exact wpS_bind (wpS_modify (wpS_bind (wpS_modify (wpS_pure ⟨_, rfl, (hR4.pw _ _).push (by omega) (by omega)⟩))))
  · rintro c st1 ⟨lo, rfl, hR⟩
    dsimp only
    refine wpS_bind (wpS_mono (wpS_forRange (I := fun _ c st' => c = (none, ()) ∧ SR κ a₀ lo st') (Q := fun c st' => c = (none, ()) ∧ SR κ a₀ lo st') ?_ (fun c st' hh => hh) ⟨rfl, hR⟩) ?_)
    · rintro x c st4 _ _ ⟨rfl, hR4⟩
      refine wpS_bind (wpS_get ?_)
      by_cases hs : (pendingOf st4).size ≤ 1
      · rw [if_pos hs]; exact wpS_pure ⟨rfl, hR4⟩
      rw [if_neg hs]
      refine wpS_bind (wpS_mergeAt hC hR4 ?_ fun st5 hR5 => ?_)
      · exact Nat.lt_of_le_of_lt (Nat.succ_le_succ ite_pred_le) (show (pendingOf st4).size - 2 + 1 < (pendingOf st4).size by omega)
      · simp only [Bool.not_true, Bool.false_eq_true, if_false]
        exact wpS_pure ⟨rfl, hR5⟩
    · rintro c st4 ⟨rfl, pd, hq, _⟩
      exact wpS_pure (h _ hq.perm hq.failed)
end
end PyProof.Rows

set_option maxHeartbeats 1500000
namespace L2
open PySem PySem.Spec PyProof.Rows PySem.W
/-- all of vs are pairs of ints, in this heap -/
def PairsV (h : Heap) (vs : List Value) : Prop := ∀ v ∈ vs, ∃ a o n x t y u, v = Value.ref a ∧ h.get? a = some o ∧ o.cls = .type "tuple" ∧ o.data = .seq #[.int x t, .int y u] n
theorem PairsV.tups {h : Heap} : ∀ {vs : List Value}, PairsV h vs → ∃ fs, KatTups h vs fs ∧ fs.length = vs.length ∧ ∀ v ∈ fs, ∃ n t, v = Value.int n t
  | [], _ => ⟨[], trivial, rfl, fun v hv => nomatch hv⟩
  | v :: vs, hp => by
    obtain ⟨fs, k1, k2, k3⟩ := PairsV.tups (vs := vs) fun b hb => hp b (List.mem_cons_of_mem _ hb)
    obtain ⟨a, o, n, x, t, y, u, rfl, e, c, d⟩ := hp v List.mem_cons_self
    refine ⟨.int x t :: fs, KatTups.cons e c d rfl k1, by simp [k2], fun v hv => ?_⟩
    rcases List.mem_cons.mp hv with z | z
    · exact ⟨x, t, z⟩
    · exact k3 v z
section
variable {prog : Program} {w : World} {A : Around} {E : Value → Shared → Prop} {s : Shared}
theorem cmp_pairs {vs : List Value} (hp : PairsV s.heap vs) : Cmp prog w A s (tuples' true) (vs.toArray.zip vs.toArray) := by
  have mem : ∀ x ∈ (vs.toArray.zip vs.toArray).toList, x.1 ∈ vs := by
    intro x hx
    rw [Array.toList_zip] at hx
    exact (List.of_mem_zip hx).1
  intro x y hx hy Q E' q
  obtain ⟨a, o, n, x1, t1, x2, t2, e1, eo, _, ed⟩ := hp x.1 (mem x hx)
  obtain ⟨b, o', n', y1, u1, y2, u2, e2, eo', _, ed'⟩ := hp y.1 (mem y hy)
  rw [e1, e2]
  refine kat_lt eo ed eo' ed' (kat_cons (wpAny_eqBool_int ?_))
  by_cases h1 : x1 = y1
  · rw [beq_iff_eq.mpr h1]
    refine kat_yes (kat_cons (wpAny_eqBool_int ?_))
    by_cases h2 : x2 = y2
    · rw [beq_iff_eq.mpr h2]
      exact kat_yes (kat_nil (q _))
    · rw [beq_eq_false_iff_ne.mpr h2]
      exact kat_no (kat_one _ _ (lt_int (q _)))
  · rw [beq_eq_false_iff_ne.mpr h1]
    exact kat_no (oneLt_int (q _))
theorem zip_snd {vs : List Value} : ((vs.toArray.zip vs.toArray).map (·.2)).toList = vs := by
  rw [Array.toList_map, Array.toList_zip]
  show (vs.zip vs).map (·.2) = vs
  rw [← List.unzip_snd, List.unzip_zip_right (Nat.le_refl _)]
theorem list_sort_pairs {a : Addr} {vs : List Value} {n : Nat} {P : PySem.Fin → Shared → Prop} (ho : s.heap.get? a = some (seqObj "list" vs.toArray n)) (hp : PairsV s.heap vs) (hz : vs.length ≤ 4096)
    (h : ∀ (out : Array Value), out.toList.Perm vs → P (.done (.ret .none)) { s with heap := sortedHeap s.heap a vs out }) :
    wpAny (model prog w) A (Builtin.«list.sort» ⟨[.ref a], []⟩) P E s := by
  rw [list_sort_plain]
  have ha : a < s.heap.objs.size := Heap.lt_size ho
  have hsl : vs.toArray.size ≤ sizeLine := by rw [List.size_toArray, sizeLine_eq]; omega
  refine wpAny_bind (listItems_at ho rfl ?_)
  refine wpAny_bind (listUpdate_at ho rfl ?_ hsl (Nat.zero_le _))
  obtain ⟨e1, ho1⟩ : ∃ e1, (s.heap.update a (Obj.mapSeq fun _ => #[])).get? a = some (seqObj "list" #[] e1) := ⟨_, get?_update_seq ho (fun _ => #[])⟩
  refine wpAny_bind (seqEpoch_at ho1 rfl ?_)
  refine wpAny_bind (wpAny_newTuple ?_ (by show vs.length ≤ _; rw [sizeLine_eq]; omega))
  refine wpAny_bind (wpAny_newList ?_ (Nat.zero_le _))
  refine wpAny_holding ?_
  have ho6 : (((s.heap.update a (Obj.mapSeq fun _ => #[])).push (seqObj "tuple" vs.toArray 0)).push (seqObj "list" #[] 0)).get? a = some (seqObj "list" #[] e1) := by
    rw [Heap.get?_push_ne _ _ _ (by rw [size_push', Heap.size_update]; exact Nat.ne_of_lt (Nat.lt_succ_of_lt ha)), Heap.get?_push_ne _ _ _ (by rw [Heap.size_update]; exact Nat.ne_of_lt ha)]
    exact ho1
  have hp6 : PairsV (((s.heap.update a (Obj.mapSeq fun _ => #[])).push (seqObj "tuple" vs.toArray 0)).push (seqObj "list" #[] 0)) vs := by
    intro v hv
    obtain ⟨b, o, n, x, t, y, u, ev, e, c, d⟩ := hp v hv
    have hb : b < s.heap.objs.size := Heap.lt_size e
    have hne : b ≠ a := by
      rintro rfl
      rw [ho] at e; cases e
      exact absurd (Value.type.inj c) (by decide)
    refine ⟨b, o, n, x, t, y, u, ev, ?_, c, d⟩
    rw [Heap.get?_push_ne _ _ _ (by rw [size_push', Heap.size_update]; exact Nat.ne_of_lt (Nat.lt_succ_of_lt hb)), Heap.get?_push_ne _ _ _ (by rw [Heap.size_update]; exact Nat.ne_of_lt hb), Heap.get?_update_ne _ _ _ _ hne]
    exact e
  show wpAny (model prog w) A _ P E { s with heap := ((s.heap.update a (Obj.mapSeq fun _ => #[])).push (seqObj "tuple" vs.toArray 0)).push (seqObj "list" #[] 0) }
  dsimp only
  have fin : ∀ st' : SortSt, (arrOf st').Perm (vs.toArray.zip vs.toArray) → P (.done (.ret .none)) { s with heap := sortedHeap s.heap a vs ((arrOf st').map (·.2)) } := by
    intro st' hpm
    refine h _ ?_
    have := (Array.perm_iff_toList_perm.mp hpm).map (·.2)
    rw [← Array.toList_map, ← Array.toList_map, zip_snd] at this
    exact this
  have zsz : (vs.toArray.zip vs.toArray).size = vs.length := by simp
  by_cases h2 : vs.toArray.size < 2
  · rw [if_pos h2, if_pos h2]
    refine wpAny_bind (wpAny_pure ?_)
    rw [StateT.run_pure]
    refine wpAny_bind (wpAny_pure ?_)
    dsimp only
    refine wpAny_bind (seqEpoch_at ho6 rfl ?_)
    refine wpAny_bind (listUpdate_at ho6 rfl ?_ (Nat.zero_le _) (by show ((vs.toArray.zip vs.toArray).map (·.2)).size ≤ _; rw [Array.size_map, zsz, sizeLine_eq]; omega))
    simp only [bne_self_eq_false, Bool.false_eq_true, if_false]
    exact wpAny_pure (fin (SortSt.mk' general' (vs.toArray.zip vs.toArray) #[] 7 none) (Array.Perm.refl _))
  · rw [if_neg h2, if_neg h2]
    have hlen : 2 ≤ vs.length := by rw [List.size_toArray] at h2; omega
    obtain ⟨fs, k1, k2, k3⟩ := hp6.tups
    refine wpAny_bind (kat_kind (T := .type "int") k1 (by omega) (fun v hv => ?_) rfl ?_)
    · obtain ⟨m, t, rfl⟩ := k3 v hv
      exact .now
    refine wpAny_bind (wpAny_mono (wpS_sorts (a₀ := vs.toArray.zip vs.toArray) (κ := tuples' true) (st := SortSt.mk' (tuples' true) (vs.toArray.zip vs.toArray) #[] 7 none)
      (Q := fun _ st' => (arrOf st').Perm (vs.toArray.zip vs.toArray) ∧ failedOf st' = none) (cmp_pairs hp6) (Array.Perm.refl _) rfl rfl rfl fun st' b1 b2 => ⟨b1, b2⟩) ?_ fun _ _ e => e)
    rintro ⟨⟨⟩, st'⟩ s' ⟨rfl, hpm, hf⟩
    dsimp only
    refine wpAny_bind (seqEpoch_at ho6 rfl ?_)
    refine wpAny_bind (listUpdate_at ho6 rfl ?_ (Nat.zero_le _) (by refine Nat.le_trans (Nat.le_of_eq ((Array.size_map ..).trans (hpm.size_eq.trans zsz))) ?_; rw [sizeLine_eq]; omega))
    rw [hf]
    simp only [bne_self_eq_false, Bool.false_eq_true, if_false]
    exact wpAny_pure (fin st' hpm)
theorem sorted_pairs {l : Addr} {vs : List Value} {Q : Value → Shared → Prop} (hl : s.heap.IsList l vs.toArray) (hp : PairsV s.heap vs) (hz : vs.length ≤ 4096)
    (h : ∀ (out : Array Value), out.toList.Perm vs → Q (.ref (s.heap.objs.size + 1)) { s with heap := sortedAll s.heap vs out }) :
    wpAny (model prog w) A (call (.builtin "sorted") [.ref l]) Q E s := by
  have hsl : vs.length ≤ sizeLine := by rw [sizeLine_eq]; omega
  refine Calls.call_function_entry kind_sorted plain_sorted entry_sorted (args_sorted1 _) ?_
  unfold Builtin.«sorted»
  refine wpAny_bind (m := checkCount "sorted" 1 1 _) (wpAny_pure ?_)
  refine wpAny_bind (collect_list hl ?_ hsl)
  refine wpAny_bind (wpAny_newList ?_ hsl)
  have hsz : ((s.heap.push (seqObj "list" #[] 0)).update s.heap.objs.size (Obj.mapSeq (· ++ vs.toArray))).objs.size = s.heap.objs.size + 1 := by
    rw [Heap.size_update, size_push']
  have hoL : (((s.heap.push (seqObj "list" #[] 0)).update s.heap.objs.size (Obj.mapSeq (· ++ vs.toArray))).push (seqObj "list" vs.toArray 0)).get? (s.heap.objs.size + 1) = some (seqObj "list" vs.toArray 0) := by
    rw [← hsz]; exact Heap.get?_push_size _ rfl
  have hp2 : PairsV (((s.heap.push (seqObj "list" #[] 0)).update s.heap.objs.size (Obj.mapSeq (· ++ vs.toArray))).push (seqObj "list" vs.toArray 0)) vs := by
    intro v hv
    obtain ⟨b, o, n, x, t, y, u, ev, e, c, d⟩ := hp v hv
    have hb : b < s.heap.objs.size := Heap.lt_size e
    refine ⟨b, o, n, x, t, y, u, ev, ?_, c, d⟩
    rw [Heap.get?_push_ne _ _ _ (by rw [hsz]; exact Nat.ne_of_lt (Nat.lt_succ_of_lt hb)), Heap.get?_update_ne _ _ _ _ (Nat.ne_of_lt hb), Heap.get?_push_ne _ _ _ (Nat.ne_of_lt hb)]
    exact e
  show wpAny _ _ _ _ _ { s with heap := ((s.heap.push (seqObj "list" #[] 0)).update s.heap.objs.size (Obj.mapSeq (· ++ vs.toArray))).push (seqObj "list" vs.toArray 0) }
  rw [hsz]
  refine wpAny_bind (wpAny_holding (wpAny_call_entry slot_list_sort ⟨_, hoL, rfl⟩ entry_list_sort (list_sort_pairs hoL hp2 hz fun out a1 => ⟨_, rfl, ?_⟩) (args_list_sort _)))
  exact wpAny_pure ⟨_, rfl, h out a1⟩
end
theorem refs_of' : ∀ {as : List Addr} {its : List Value}, Vals (as.map V.ref) its → its = as.map Value.ref
  | [], _, r => by cases r; rfl
  | a :: as, _, r => by
    cases r with
    | cons r rr =>
      obtain rfl := (show _ = Value.ref a from r)
      rw [refs_of' rr]; rfl
theorem vals_refs : ∀ {as : List Addr}, Vals (as.map V.ref) (as.map Value.ref)
  | [] => .nil
  | _ :: _ => .cons rfl vals_refs
theorem perm_refs {as : List Addr} {vs : List Value} (h : vs.Perm (as.map Value.ref)) : ∃ as' : List Addr, vs = as'.map Value.ref ∧ as'.Perm as := by
  let un : Value → Addr := fun v => match v with | .ref a => a | _ => 0
  refine ⟨vs.map un, ?_, ?_⟩
  · rw [List.map_map]
    have : ∀ v ∈ vs, (Value.ref ∘ un) v = v := by
      intro v hv
      obtain ⟨a, _, rfl⟩ := List.mem_map.mp (h.mem_iff.mp hv)
      rfl
    conv => lhs; rw [← List.map_id vs]
    exact List.map_congr_left fun v hv => (this v hv).symm
  · have := h.map un
    rw [List.map_map] at this
    have e : as.map (un ∘ Value.ref) = as := by
      conv => rhs; rw [← List.map_id as]
      exact List.map_congr_left fun a _ => rfl
    rw [e] at this
    exact this
/-- sorted of pairs of ints, any number: the pairs in some order -/
def rSortA (K : PySem.W.Frag) : List V → Hp → VK → Prop := fun xs H Q => ∃ (l : Addr) (as : List Addr), xs = [.ref l] ∧ SqL K H l (as.map V.ref) ∧ (∀ a ∈ as, ∃ x y : Int, SqT K H a [.int x, .int y]) ∧ as.length ≤ 4096 ∧
  ∀ (D : Addr) (as' : List Addr), H D = none → as'.Perm as → Q (.ref D) (upd H D (.lst (as'.map V.ref)))
theorem call_sortA {X : Cx} : CallR X (.builtin "sorted") (rSortA X.K) := by
  intro pins s σ H xs us Q I r h
  obtain ⟨l, as, rfl, hl, hp, hz, q⟩ := h
  obtain ⟨u1, rfl, r1⟩ := r.one
  obtain rfl : u1 = Value.ref l := r1
  obtain ⟨its, rv, pl, _⟩ := I.list hl
  have hits := refs_of' rv
  subst hits
  have hpv : PairsV s.heap (as.map Value.ref) := by
    intro v hv
    obtain ⟨a, ha, rfl⟩ := List.mem_map.mp hv
    obtain ⟨x, y, hxy⟩ := hp a ha
    obtain ⟨its, r, ⟨o, e, c, n, d⟩, _⟩ := I.tuple hxy
    obtain ⟨u1, u2, rfl, r1, r2⟩ := r.two
    obtain ⟨t, rfl⟩ := r1
    obtain ⟨t', rfl⟩ := r2
    exact ⟨a, o, n, x, t, y, t', rfl, e, c, d⟩
  refine sorted_pairs pl.isList hpv (by rw [List.length_map]; exact hz) fun out hperm => ?_
  obtain ⟨as', eo, pa⟩ := perm_refs hperm
  have hout : out = (as'.map Value.ref).toArray := by rw [← eo]
  subst hout
  have sz1 : ((s.heap.push (seqObj "list" #[] 0)).update s.heap.objs.size (Obj.mapSeq (· ++ (as.map Value.ref).toArray))).objs.size = s.heap.objs.size + 1 := by rw [Heap.size_update, size_push']
  have k1 : ∀ b u, s.heap.get? b = some u → (((s.heap.push (seqObj "list" #[] 0)).update s.heap.objs.size (Obj.mapSeq (· ++ (as.map Value.ref).toArray))).push (seqObj "list" (as.map Value.ref).toArray 0)).get? b = some u := fun b u e => by
    have hb : b < s.heap.objs.size := Heap.lt_size e
    rw [Heap.get?_push_ne _ _ _ (by rw [sz1]; exact Nat.ne_of_lt (Nat.lt_succ_of_lt hb)), Heap.get?_update_ne _ _ _ _ (Nat.ne_of_lt hb), Heap.get?_push_ne _ _ _ (Nat.ne_of_lt hb)]
    exact e
  have hoL : (((s.heap.push (seqObj "list" #[] 0)).update s.heap.objs.size (Obj.mapSeq (· ++ (as.map Value.ref).toArray))).push (seqObj "list" (as.map Value.ref).toArray 0)).get? (s.heap.objs.size + 1) = some (seqObj "list" (as.map Value.ref).toArray 0) := by
    rw [← sz1]; exact Heap.get?_push_size _ rfl
  have sz2 : (((s.heap.push (seqObj "list" #[] 0)).update s.heap.objs.size (Obj.mapSeq (· ++ (as.map Value.ref).toArray))).push (seqObj "list" (as.map Value.ref).toArray 0)).objs.size = s.heap.objs.size + 2 := by rw [size_push', sz1]
  show EP X pins σ Q (.ref (s.heap.objs.size + 1)) { s with heap := sortedHeap (((s.heap.push (seqObj "list" #[] 0)).update s.heap.objs.size (Obj.mapSeq (· ++ (as.map Value.ref).toArray))).push (seqObj "list" (as.map Value.ref).toArray 0)) (s.heap.objs.size + 1) (as.map Value.ref) (as'.map Value.ref).toArray }
  revert k1 hoL sz2
  generalize ((s.heap.push (seqObj "list" #[] 0)).update s.heap.objs.size (Obj.mapSeq (· ++ (as.map Value.ref).toArray))).push (seqObj "list" (as.map Value.ref).toArray 0) = h1
  intro k1 hoL sz2
  obtain ⟨e1, ho1⟩ : ∃ e1, (h1.update (s.heap.objs.size + 1) (Obj.mapSeq fun _ => (#[] : Array Value))).get? (s.heap.objs.size + 1) = some (seqObj "list" #[] e1) := ⟨_, get?_update_seq hoL (fun _ => #[])⟩
  have ho6 : (((h1.update (s.heap.objs.size + 1) (Obj.mapSeq fun _ => (#[] : Array Value))).push (seqObj "tuple" (as.map Value.ref).toArray 0)).push (seqObj "list" #[] 0)).get? (s.heap.objs.size + 1) = some (seqObj "list" #[] e1) := by
    rw [Heap.get?_push_ne _ _ _ (by rw [size_push', Heap.size_update, sz2]; exact Nat.ne_of_lt (Nat.lt_succ_of_lt (Nat.lt_succ_self _))), Heap.get?_push_ne _ _ _ (by rw [Heap.size_update, sz2]; exact Nat.ne_of_lt (Nat.lt_succ_self _))]
    exact ho1
  obtain ⟨e2, ho7⟩ : ∃ e2, (sortedHeap h1 (s.heap.objs.size + 1) (as.map Value.ref) (as'.map Value.ref).toArray).get? (s.heap.objs.size + 1) = some (seqObj "list" (as'.map Value.ref).toArray e2) := ⟨_, get?_update_seq ho6 (fun _ => (as'.map Value.ref).toArray)⟩
  have keep : ∀ b u, s.heap.get? b = some u → (sortedHeap h1 (s.heap.objs.size + 1) (as.map Value.ref) (as'.map Value.ref).toArray).get? b = some u := fun b u e => by
    have hb : b < s.heap.objs.size := Heap.lt_size e
    unfold sortedHeap
    rw [Heap.get?_update_ne _ _ _ _ (Nat.ne_of_lt (Nat.lt_succ_of_lt hb)), Heap.get?_push_ne _ _ _ (by rw [size_push', Heap.size_update, sz2]; exact Nat.ne_of_lt (Nat.lt_succ_of_lt (Nat.lt_succ_of_lt (Nat.lt_succ_of_lt hb)))), Heap.get?_push_ne _ _ _ (by rw [Heap.size_update, sz2]; exact Nat.ne_of_lt (Nat.lt_succ_of_lt (Nat.lt_succ_of_lt hb))), Heap.get?_update_ne _ _ _ _ (Nat.ne_of_lt (Nat.lt_succ_of_lt hb))]
    exact k1 b u e
  have hnone : s.heap.get? (s.heap.objs.size + 1) = none := Heap.get?_none_of_le (by omega)
  refine ⟨.ref (s.heap.objs.size + 1), _, I.laidN (t' := s.toks) (o := .lst (as'.map V.ref)) keep hnone ⟨?_, as'.map Value.ref, e2, vals_refs, ho7⟩, rfl, q _ as' (I.hok.freshN hnone) pa⟩
  rw [List.length_map, pa.length_eq]
  exact Nat.le_trans hz (by decide)
end L2

set_option maxHeartbeats 1500000
namespace L2
open PySem PySem.Spec PyProof.Rows
/-! ### zip of two tuples -/
theorem sb_get {c : Addr} {h h' : Heap} (sb : Heap.SameBut c h h') {b : Addr} {o : Obj} (n : b ≠ c) (e : h.get? b = some o) : h'.get? b = some o := (sb.2 b n).trans e
theorem itup_sb {c it t : Addr} {h h' : Heap} {k : Nat} (r : h.IsTupleIter it t k) (sb : Heap.SameBut c h h') (n : it ≠ c) : h'.IsTupleIter it t k := r.at fun o e => sb_get sb n e
theorem tup_sb {c t : Addr} {h h' : Heap} {xs : Array Value} (r : h.IsTuple t xs) (sb : Heap.SameBut c h h') (n : t ≠ c) : h'.IsTuple t xs := let ⟨o, e, z⟩ := r; ⟨o, sb_get sb n e, z⟩
section
variable {prog : Program} {w : World} {A : Around} {E : Value → Shared → Prop} {s : Shared}
theorem zipT_item {z ti tq i1 i2 t1 t2 : Addr} {k : Nat} {xs ys : Array Value} {x y a b : Value} {Q : Value → Shared → Prop} (dj : ZipApart z ti tq i1 i2 t1 t2)
    (gz : IsZip s.heap z ti tq .none) (gi : IsPair s.heap ti (.ref i1) (.ref i2)) (gq : IsPair s.heap tq a b) (r1 : s.heap.IsTupleIter i1 t1 k) (r2 : s.heap.IsTupleIter i2 t2 k) (g1 : s.heap.IsTuple t1 xs) (g2 : s.heap.IsTuple t2 ys) (ex : xs[k]? = some x) (ey : ys[k]? = some y)
    (q : ∀ h', IsZip h' z ti tq (rawInt s.heap.objs.size) → IsPair h' tq x y → h'.IsTupleIter i1 t1 (k + 1) → h'.IsTupleIter i2 t2 (k + 1) → IsPair h' s.heap.objs.size x y → (∀ c o, c ≠ z → c ≠ tq → c ≠ i1 → c ≠ i2 → s.heap.get? c = some o → h'.get? c = some o) → Q (.ref s.heap.objs.size) { s with heap := h' }) :
    wpAny (model prog w) A (Builtin.«zip.__next__» ⟨[.ref z], []⟩) (fun fin s' => ∃ v, fin = .done (.ret v) ∧ Q v s') E s := by
  change wpAny _ _ (field (.ref z) 2 >>= _) _ _ _
  refine wpAny_bind (wpAny_field gz rfl (x := .bool false) rfl ?_)
  change wpAny _ _ (field (.ref z) 3 >>= _) _ _ _
  refine wpAny_bind (wpAny_field gz rfl (x := .ref ti) rfl (wpAny_bind (wpAny_seqItems gi rfl ?_)))
  change wpAny _ _ (Builtin.SmallTypes.ownedTupleIsFree (.ref z) >>= _) _ _ _
  refine wpAny_bind ?_
  unfold Builtin.SmallTypes.ownedTupleIsFree
  refine wpAny_bind (wpAny_field gz rfl (x := .none) rfl (wpAny_pure ?_))
  simp only [if_true]
  refine wpAny_bind (wpAny_rule (wpAny_bind (wpAny_field gz rfl (x := .ref tq) rfl ?_)))
  refine wpAny_bind (wpAny_setField_rec gz (by simp) fun m1 gz1 sb1 => ?_)
  replace gz1 : IsZip m1 z ti tq .ellipsis := gz1
  refine wpAny_bind ?_
  simp only [List.zipIdx_cons, List.zipIdx_nil, List.forIn_cons, List.forIn_nil]
  refine wpAny_bind (wpAny_bind (wpAny_onRaise ?_))
  change wpAny _ _ (Builtin.SmallTypes.nextOf (.ref i1) >>= _) _ _ _
  refine wpAny_bind (tnext_item (itup_sb r1 sb1 dj.i1z) (tup_sb g1 sb1 dj.l1z) ex fun m2 r12 sb2 => wpAny_pure ?_)
  have gq2 : IsPair m2 tq a b := sb_get sb2 dj.TOi1 (sb_get sb1 dj.TOz gq)
  refine wpAny_bind (wpAny_seqItems gq2 rfl (wpAny_bind (wpAny_updateSeq_pair gq2 fun m3 gq3 sb3 => ?_)))
  replace gq3 : IsPair m3 tq x b := gq3
  refine wpAny_bind (wpAny_letGo (wpAny_pure ?_))
  refine wpAny_bind (wpAny_bind (wpAny_onRaise ?_))
  change wpAny _ _ (Builtin.SmallTypes.nextOf (.ref i2) >>= _) _ _ _
  refine wpAny_bind (tnext_item (itup_sb (itup_sb (itup_sb r2 sb1 dj.i2z) sb2 dj.i12.symm) sb3 dj.TOi2.symm) (tup_sb (tup_sb (tup_sb g2 sb1 dj.l2z) sb2 dj.l2i1) sb3 dj.l2TO) ey fun m4 r24 sb4 => wpAny_pure ?_)
  have gq4 : IsPair m4 tq x b := sb_get sb4 dj.TOi2 gq3
  refine wpAny_bind (wpAny_seqItems gq4 rfl (wpAny_bind (wpAny_updateSeq_pair gq4 fun m5 gq5 sb5 => ?_)))
  replace gq5 : IsPair m5 tq x y := gq5
  refine wpAny_bind (wpAny_letGo (wpAny_pure (wpAny_pure ?_)))
  refine wpAny_bind (wpAny_seqItems gq5 rfl (wpAny_bind (wpAny_newTuple ?_)))
  have sz : m5.objs.size = s.heap.objs.size := by rw [sb5.1, sb4.1, sb3.1, sb2.1, sb1.1]
  have gz5 : IsZip m5 z ti tq .ellipsis := sb_get sb5 dj.TOz.symm (sb_get sb4 dj.i2z.symm (sb_get sb3 dj.TOz.symm (sb_get sb2 dj.i1z.symm gz1)))
  have kp5 : ∀ c o, c ≠ z → c ≠ tq → c ≠ i1 → c ≠ i2 → s.heap.get? c = some o → m5.get? c = some o := fun c o c1 c2 c3 c4 e =>
    sb_get sb5 c2 (sb_get sb4 c4 (sb_get sb3 c2 (sb_get sb2 c3 (sb_get sb1 c1 e))))
  have r15 : m5.IsTupleIter i1 t1 (k + 1) := itup_sb (itup_sb (itup_sb r12 sb3 dj.TOi1.symm) sb4 dj.i12) sb5 dj.TOi1.symm
  have r25 : m5.IsTupleIter i2 t2 (k + 1) := itup_sb r24 sb5 dj.TOi2.symm
  have zl : z < m5.objs.size := Heap.lt_size gz5
  change wpAny _ _ (Builtin.SmallTypes.ownedTupleHandOut (.ref z) (.ref m5.objs.size) >>= _) _ _ _
  refine wpAny_bind ?_
  unfold Builtin.SmallTypes.ownedTupleHandOut
  have gz6 : IsZip (m5.push { cls := .type "tuple", data := .seq #[x, y] }) z ti tq .ellipsis := Heap.get?_push_of_some _ gz5
  refine wpAny_bind (wpAny_setField_rec gz6 (by simp) fun m7 gz7 sb7 => ?_)
  replace gz7 : IsZip m7 z ti tq (rawInt m5.objs.size) := gz7
  refine wpAny_setField_rec gz7 (by simp) fun m8 gz8 sb8 => ?_
  replace gz8 : IsZip m8 z ti tq (rawInt m5.objs.size) := gz8
  have up : ∀ c o, c ≠ z → m5.get? c = some o → m8.get? c = some o := fun c o c1 e => sb_get sb8 c1 (sb_get sb7 c1 (Heap.get?_push_of_some _ e))
  have gp8 : IsPair m8 m5.objs.size x y := sb_get sb8 (Nat.ne_of_gt zl) (sb_get sb7 (Nat.ne_of_gt zl) (Heap.get?_push_size _ rfl))
  rw [sz] at gz8 gp8
  refine wpAny_pure ⟨_, rfl, ?_⟩
  change Q (.ref m5.objs.size) _
  rw [sz]
  exact q m8 gz8 (up _ _ dj.TOz gq5) (r15.at fun o e => up _ o dj.i1z e) (r25.at fun o e => up _ o dj.i2z e) gp8 fun c o c1 c2 c3 c4 e => up c o c1 (kp5 c o c1 c2 c3 c4 e)
theorem zipT_end {z ti tq i1 i2 t1 t2 : Addr} {k : Nat} {xs : Array Value} {Q : PySem.Fin → Shared → Prop} (hh : A.handled = none) (dj : ZipApart z ti tq i1 i2 t1 t2)
    (gz : IsZip s.heap z ti tq .none) (gi : IsPair s.heap ti (.ref i1) (.ref i2)) (r1 : s.heap.IsTupleIter i1 t1 k) (g1 : s.heap.IsTuple t1 xs) (ex : xs[k]? = none)
    (q : ∀ h' e, (∀ c o, c ≠ z → c ≠ i1 → s.heap.get? c = some o → h'.get? c = some o) → (∃ o, h'.get? e = some o ∧ o.cls = .type "StopIteration") → E (.ref e) { s with heap := h' }) :
    wpAny (model prog w) A (Builtin.«zip.__next__» ⟨[.ref z], []⟩) Q E s := by
  change wpAny _ _ (field (.ref z) 2 >>= _) _ _ _
  refine wpAny_bind (wpAny_field gz rfl (x := .bool false) rfl ?_)
  change wpAny _ _ (field (.ref z) 3 >>= _) _ _ _
  refine wpAny_bind (wpAny_field gz rfl (x := .ref ti) rfl (wpAny_bind (wpAny_seqItems gi rfl ?_)))
  change wpAny _ _ (Builtin.SmallTypes.ownedTupleIsFree (.ref z) >>= _) _ _ _
  refine wpAny_bind ?_
  unfold Builtin.SmallTypes.ownedTupleIsFree
  refine wpAny_bind (wpAny_field gz rfl (x := .none) rfl (wpAny_pure ?_))
  simp only [if_true]
  refine wpAny_bind (wpAny_rule (wpAny_bind (wpAny_field gz rfl (x := .ref tq) rfl ?_)))
  refine wpAny_bind (wpAny_setField_rec gz (by simp) fun m1 gz1 sb1 => ?_)
  replace gz1 : IsZip m1 z ti tq .ellipsis := gz1
  refine wpAny_bind ?_
  simp only [List.zipIdx_cons, List.zipIdx_nil, List.forIn_cons, List.forIn_nil]
  refine wpAny_bind (wpAny_bind (wpAny_onRaise ?_))
  change wpAny _ _ (Builtin.SmallTypes.nextOf (.ref i1) >>= _) _ _ _
  refine wpAny_bind (tnext_end hh (itup_sb r1 sb1 dj.i1z) (tup_sb g1 sb1 dj.l1z) ex fun m2 e sb2 he => ?_)
  obtain ⟨oe, hoe, hce⟩ := he
  have gz2 : IsZip m2 z ti tq .ellipsis := sb2 _ _ dj.i1z.symm gz1
  have nez : e ≠ z := fun y => by subst y; rw [gz2] at hoe; cases hoe; simp at hce
  exact wpAny_setField_rec gz2 (by simp) fun m3 _ sb3 => q m3 e (fun c o c1 c3 y => sb_get sb3 c1 (sb2 _ _ c3 (sb_get sb1 c1 y))) ⟨oe, sb_get sb3 nez hoe, hce⟩
theorem zipT_nextI {z ti tq i1 i2 t1 t2 : Addr} {k : Nat} {xs ys : Array Value} {x y a b : Value} {Q : Option Value → Shared → Prop} (dj : ZipApart z ti tq i1 i2 t1 t2)
    (gz : IsZip s.heap z ti tq .none) (gi : IsPair s.heap ti (.ref i1) (.ref i2)) (gq : IsPair s.heap tq a b) (r1 : s.heap.IsTupleIter i1 t1 k) (r2 : s.heap.IsTupleIter i2 t2 k) (g1 : s.heap.IsTuple t1 xs) (g2 : s.heap.IsTuple t2 ys) (ex : xs[k]? = some x) (ey : ys[k]? = some y)
    (q : ∀ h', IsZip h' z ti tq (rawInt s.heap.objs.size) → IsPair h' tq x y → h'.IsTupleIter i1 t1 (k + 1) → h'.IsTupleIter i2 t2 (k + 1) → IsPair h' s.heap.objs.size x y → (∀ c o, c ≠ z → c ≠ tq → c ≠ i1 → c ≠ i2 → s.heap.get? c = some o → h'.get? c = some o) → Q (some (.ref s.heap.objs.size)) { s with heap := h' }) :
    wpAny (model prog w) A (pyNext (.ref z)) Q E s := by
  have ty : s.TypeIs (.ref z) "zip" := ⟨_, gz, rfl⟩
  unfold pyNext
  refine wpAny_bind (wpAny_attempt (wpAny_callSpecial?_slot (name := Str.ofString "__next__") ty F.slot_zip_next (wpAny_call_entry F.slot_zip_next ty F.entry_zip_next ?_ (F.args_zip_next_1 _))))
  exact zipT_item dj gz gi gq r1 r2 g1 g2 ex ey fun h' a1 a2 a3 a4 a5 a6 => wpAny_pure (q h' a1 a2 a3 a4 a5 a6)
theorem zipT_nextE {z ti tq i1 i2 t1 t2 : Addr} {k : Nat} {xs : Array Value} {Q : Option Value → Shared → Prop} (hh : A.handled = none) (dj : ZipApart z ti tq i1 i2 t1 t2)
    (gz : IsZip s.heap z ti tq .none) (gi : IsPair s.heap ti (.ref i1) (.ref i2)) (r1 : s.heap.IsTupleIter i1 t1 k) (g1 : s.heap.IsTuple t1 xs) (ex : xs[k]? = none)
    (q : ∀ h', (∀ c o, c ≠ z → c ≠ i1 → s.heap.get? c = some o → h'.get? c = some o) → Q none { s with heap := h' }) : wpAny (model prog w) A (pyNext (.ref z)) Q E s := by
  have ty : s.TypeIs (.ref z) "zip" := ⟨_, gz, rfl⟩
  unfold pyNext
  refine wpAny_bind (wpAny_attempt (wpAny_callSpecial?_slot (name := Str.ofString "__next__") ty F.slot_zip_next (wpAny_call_entry F.slot_zip_next ty F.entry_zip_next (zipT_end hh dj gz gi r1 g1 ex fun h' e hk he => ?_) (F.args_zip_next_1 _))))
  obtain ⟨o, ho, hc⟩ := he
  exact wpAny_bind (wpAny_isInstance (T := "StopIteration") (b := true) ⟨o, ho, hc⟩ isSubtype_stop (wpAny_pure (q _ hk)))
abbrev zT (t : Addr) : Obj := { cls := .type "tuple_iterator", data := .fields #[.ref t, .int 0 0] }
abbrev zT3 (h : Heap) (t1 t2 : Addr) : Heap := ((h.push (zT t1)).push (zT t2)).push { cls := .type "tuple", data := .seq #[.ref h.objs.size, .ref (h.push (zT t1)).objs.size] }
abbrev zT4 (h : Heap) (t1 t2 : Addr) : Heap := (zT3 h t1 t2).push { cls := .type "tuple", data := .seq #[.none, .none] }
abbrev zT5 (h : Heap) (t1 t2 : Addr) : Heap := (zT4 h t1 t2).push { cls := .type "zip", data := .fields #[.none, .bool false, .bool false, .ref ((h.push (zT t1)).push (zT t2)).objs.size, .ref (zT3 h t1 t2).objs.size] }
theorem zipT_new (t1 t2 : Addr) (xs ys : Array Value) :
    Meets (Builtin.«zip.__new__» ⟨[.type "zip", .ref t1, .ref t2], []⟩) (fun _ R s => s.heap.IsTuple t1 xs ∧ s.heap.IsTuple t2 ys ∧ R (.ok (.ret (.ref (zT4 s.heap t1 t2).objs.size))) { s with heap := zT5 s.heap t1 t2 }) :=
  .of_wp fun prog w A R s h => by
    obtain ⟨hp, g, d, tk, os⟩ := s
    obtain ⟨g1, g2, h⟩ := h
    have hsub := sub_zip
    have gA : Heap.IsTuple (Shared.heap ⟨hp, g, d, tk, os⟩) t1 xs := g1
    have gB : Heap.IsTuple (Shared.heap ⟨hp.push (zT t1), g, d, tk, os⟩) t2 ys := let ⟨o, e, z⟩ := g2; ⟨o, Heap.get?_push_of_some _ e, z⟩
    wp_walk using wpAny_pyIter_tuple gA, wpAny_pyIter_tuple gB
    exact ⟨_, rfl, h⟩
end
end L2

set_option maxHeartbeats 1500000
namespace L2
open PySem PySem.Spec PyProof.Rows
section
variable {prog : Program} {w : World} {A : Around} {E : Value → Shared → Prop} {s : Shared}
theorem zipT_call {t1 t2 : Addr} {xs ys : Array Value} {Q : Value → Shared → Prop} (g1 : s.heap.IsTuple t1 xs) (g2 : s.heap.IsTuple t2 ys)
    (q : ∀ h', IsZip h' (s.heap.objs.size + 4) (s.heap.objs.size + 2) (s.heap.objs.size + 3) .none → IsPair h' (s.heap.objs.size + 2) (.ref s.heap.objs.size) (.ref (s.heap.objs.size + 1)) → IsPair h' (s.heap.objs.size + 3) .none .none →
      h'.IsTupleIter s.heap.objs.size t1 0 → h'.IsTupleIter (s.heap.objs.size + 1) t2 0 → (∀ c o, s.heap.get? c = some o → h'.get? c = some o) → Q (.ref (s.heap.objs.size + 4)) { s with heap := h' }) :
    wpAny (model prog w) A (call (.type "zip") [.ref t1, .ref t2]) Q E s := by
  refine callType_new F.called_zip (by decide) (F.typeCall_zip_2 _ _) (F.newCall_zip_2 _ _) (fun obj => F.args_object_init_3 obj _ _) F.entry_zip_new (zipT_new t1 t2 xs ys) ⟨g1, g2, ?_⟩
  have n1 : (s.heap.push (zT t1)).objs.size = s.heap.objs.size + 1 := Heap.size_push ..
  have n2 : ((s.heap.push (zT t1)).push (zT t2)).objs.size = s.heap.objs.size + 2 := by rw [Heap.size_push, n1]
  have n3 : (zT3 s.heap t1 t2).objs.size = s.heap.objs.size + 3 := by rw [Heap.size_push, n2]
  have n4 : (zT4 s.heap t1 t2).objs.size = s.heap.objs.size + 4 := by rw [Heap.size_push, n3]
  have e5 : (zT5 s.heap t1 t2).get? (zT4 s.heap t1 t2).objs.size = some _ := Heap.get?_push_size _ rfl
  have e4 : (zT5 s.heap t1 t2).get? (zT3 s.heap t1 t2).objs.size = some _ := Heap.get?_push_of_some _ (Heap.get?_push_size _ rfl)
  have e3 : (zT5 s.heap t1 t2).get? ((s.heap.push (zT t1)).push (zT t2)).objs.size = some _ := Heap.get?_push_of_some _ (Heap.get?_push_of_some _ (Heap.get?_push_size _ rfl))
  have e2 : (zT5 s.heap t1 t2).get? (s.heap.push (zT t1)).objs.size = some _ := Heap.get?_push_of_some _ (Heap.get?_push_of_some _ (Heap.get?_push_of_some _ (Heap.get?_push_size _ rfl)))
  have e1 : (zT5 s.heap t1 t2).get? s.heap.objs.size = some _ := Heap.get?_push_of_some _ (Heap.get?_push_of_some _ (Heap.get?_push_of_some _ (Heap.get?_push_of_some _ (Heap.get?_push_size _ rfl))))
  change _ ∧ _
  rw [n2, n3, n4] at e5
  rw [n1, n2] at e3
  rw [n3] at e4
  rw [n1] at e2
  rw [n4]
  exact ⟨⟨_, e5, rfl⟩, q _ e5 e3 e4 ⟨_, e1, rfl, rfl⟩ ⟨_, e2, rfl, rfl⟩ fun c o y =>
    Heap.get?_push_of_some _ (Heap.get?_push_of_some _ (Heap.get?_push_of_some _ (Heap.get?_push_of_some _ (Heap.get?_push_of_some _ y))))⟩
end
/-- several records of an iterator have turned -/
theorem Inv.turnedL {X : Cx} {pins : List (Addr × Obj)} {σ : St} {H : Hp} {s : Shared} {h' : Heap} {t' : Nat} {ch : List Addr} (I : Inv X pins σ H s) (fe : ∀ e ∈ ch, FpOk X pins H e) (k : ∀ b o, b ∉ ch → s.heap.get? b = some o → h'.get? b = some o) : Inv X pins σ H { s with heap := h', toks := t' } := by
  have nit : ∀ b u, H b = some u → b ∉ ch := fun b u e z => by rw [(fe b z).1] at e; cases e
  refine I.step (g' := s.gens) (d' := s.drawn) (ch := ch) (fun b hb => ?_) (fun b o _ _ hc e _ => k b o hc e) (fun b o _ _ hc e _ => ⟨o.slots, k b o hc e⟩) (fun _ _ _ _ n => n) (fun b o hc e => ⟨o, k b o hc e⟩) (fun _ _ e => e) (fun _ _ _ e => e) (fun b ps e => ⟨#[], by rw [e]; simp⟩) (fun m hm => ?_) (fun b u e => ?_) I.bare
  · obtain ⟨_, f1, _, f3, f4, f5⟩ := fe b hb
    exact ⟨f3, f1, f4, f5⟩
  · obtain ⟨o, es, ep, ho, r⟩ := hm
    exact ⟨o, es, ep, k _ o (fun z => (fe _ z).2.1 rfl) ho, r⟩
  · refine (I.hok b u e).stay (fun c v hc q => k c v ?_ q) (fun _ q => q) fun _ _ q => q
    rcases hc with z | z
    · rw [z]; exact nit b u e
    · exact nit c _ z
/-- .. and a tuple is new -/
theorem Inv.turnedT {X : Cx} {pins : List (Addr × Obj)} {σ : St} {H : Hp} {s : Shared} {h' : Heap} {p : Addr} {t' : Nat} {ch : List Addr} {xs : List V} {its : List Value} (I : Inv X pins σ H s) (fe : ∀ e ∈ ch, FpOk X pins H e)
    (k : ∀ b o, b ∉ ch → s.heap.get? b = some o → h'.get? b = some o) (hp : s.heap.objs.size ≤ p) (hl : xs.length ≤ sizeLine) (r : Vals xs its) (ht : h'.get? p = some { cls := .type "tuple", data := .seq its.toArray }) : Inv X pins σ (upd H p (.tup xs)) { s with heap := h', toks := t' } := by
  have hn := I.hok.fresh hp
  have ne : ∀ b o, s.heap.get? b = some o → b ≠ p := fun b o q => Nat.ne_of_lt (Nat.lt_of_lt_of_le (Heap.lt_size q) hp)
  have nit : ∀ b u, H b = some u → b ∉ ch := fun b u e z => by rw [(fe b z).1] at e; cases e
  refine I.step (g' := s.gens) (d' := s.drawn) (ch := ch) (fun b hb => ?_) (fun b o _ _ hb q _ => k b o hb q) (fun b o _ _ hb q _ => ⟨o.slots, k b o hb q⟩) (fun b o hb q n => by rw [upd_ne (ne b o q)]; exact n) (fun b o hb q => ⟨o, k b o hb q⟩)
    (fun b ys q => by rw [upd_ne (ne_of_none q hn)]; exact q) (fun b o u q => by rw [upd_ne (ne_of_none q hn)]; exact q) (fun b ps q => ⟨#[], by rw [upd_ne (ne_of_none q hn), q]; simp⟩) (fun m hm => ?_) (fun b o q => ?_) I.bare
  · obtain ⟨_, f1, _, f3, f4, f5⟩ := fe b hb
    exact ⟨f3, f1, f4, f5⟩
  · obtain ⟨o, es, ep, q, d, r'⟩ := hm
    exact ⟨o, es, ep, k _ _ (fun z => (fe _ z).2.1 rfl) q, d, r'⟩
  · by_cases hb : b = p
    · subst hb
      rw [upd_same] at q; cases q
      exact ⟨hl, its, r, _, ht, rfl, _, rfl⟩
    · rw [upd_ne hb] at q
      refine (I.hok b o q).stay (fun c u hc z => k c u ?_ z) (fun c z => by rw [upd_ne (ne_of_none z hn)]; exact z) fun c ys z => by rw [upd_ne (ne_of_none z hn)]; exact z
      rcases hc with rfl | hc
      · exact nit _ _ q
      · exact nit _ _ hc
def Itz (K : PySem.W.Frag) (a b : Addr) : It :=
  ⟨fun i H => ∃ xs ys x y, SqT K H a xs ∧ SqT K H b ys ∧ xs[i]? = some x ∧ ys[i]? = some y, fun i H v H' => ∃ p x y, v = .ref p ∧ H p = none ∧ H' = upd H p (.tup [x, y]) ∧ (∀ xs, SqT K H a xs → xs[i]? = some x) ∧ ∀ ys, SqT K H b ys → ys[i]? = some y, fun i H => ∃ xs, SqT K H a xs ∧ xs.length ≤ i⟩
theorem turn_zip {P : Program} {w : World} {K : PySem.W.Frag} {es : List Expr} {x1 : Nat} {pos : Pos} (a b z ti tq i1 i2 : Addr) (dj : ZipApart z ti tq i1 i2 a b) :
    Turn P w K (.Tuple es x1 pos) (Itz K a b) [z, ti, tq, i1, i2] z (fun i h => IsZip h z ti tq .none ∧ IsPair h ti (.ref i1) (.ref i2) ∧ (∃ u v, IsPair h tq u v) ∧ h.IsTupleIter i1 a i ∧ h.IsTupleIter i2 b i) where
  mem := by simp
  obj := fun i h st c hc => by
    obtain ⟨gz, gi, ⟨u, v, gq⟩, ⟨o1, q1, c1, d1⟩, ⟨o2, q2, c2, d2⟩⟩ := st
    simp only [List.mem_cons, List.not_mem_nil, or_false] at hc
    rcases hc with rfl | rfl | rfl | rfl | rfl
    · exact ⟨_, gz, fun v z => by have z' : Data.fields _ = Data.cell v := z; cases z'⟩
    · exact ⟨_, gi, fun v z => by have z' : Data.seq _ _ = Data.cell v := z; cases z'⟩
    · exact ⟨_, gq, fun v z => by have z' : Data.seq _ _ = Data.cell v := z; cases z'⟩
    · exact ⟨o1, q1, fun v z => by rw [d1] at z; cases z⟩
    · exact ⟨o2, q2, fun v z => by rw [d2] at z; cases z⟩
  keep := fun i h h' st k => by
    obtain ⟨gz, gi, ⟨u, v, gq⟩, r1, r2⟩ := st
    exact ⟨k z (by simp) _ gz, k ti (by simp) _ gi, ⟨u, v, k tq (by simp) _ gq⟩, r1.at fun o q => k i1 (by simp) o q, r2.at fun o q => k i2 (by simp) o q⟩
  item := by
    intro X hP hw hK hc i pins s σ H E I hf st hg
    subst hP hw hK
    obtain ⟨xs, ys, x, y, hx, hy, ex, ey⟩ := hg
    obtain ⟨us, rx, px, _⟩ := I.tuple hx
    obtain ⟨vs, ry, py, _⟩ := I.tuple hy
    obtain ⟨u, hu, ru⟩ := rx.get ex
    obtain ⟨v, hv, rv⟩ := ry.get ey
    obtain ⟨gz, gi, ⟨u0, v0, gq⟩, r1, r2⟩ := st
    refine zipT_nextI dj gz gi gq r1 r2 (show s.heap.IsTuple a us.toArray from px) (show s.heap.IsTuple b vs.toArray from py) (x := u) (y := v) (by simpa using hu) (by simpa using hv) fun h1 gz1 gq1 r11 r21 gp1 kp => ?_
    refine ⟨_, rfl, wpAny_letOwnedTupleGo_zip gz1 fun h2 gz2 sb2 => ?_⟩
    have zl : z < s.heap.objs.size := Heap.lt_size gz
    have nz : s.heap.objs.size ≠ z := Nat.ne_of_gt zl
    have kp2 : ∀ c o, c ∉ [z, tq, i1, i2] → s.heap.get? c = some o → h2.get? c = some o := fun c o hc e => by
      simp only [List.mem_cons, List.not_mem_nil, or_false, not_or] at hc
      exact sb_get sb2 hc.1 (kp c o hc.1 hc.2.1 hc.2.2.1 hc.2.2.2 e)
    have gi2 : IsPair h2 ti (.ref i1) (.ref i2) := kp2 _ _ (by simp only [List.mem_cons, List.not_mem_nil, or_false, not_or]; exact ⟨dj.TIz, dj.TITO, dj.TIi1, dj.TIi2⟩) gi
    have fe : ∀ e ∈ [z, tq, i1, i2], FpOk X pins H e := fun e he => hf e (by simp only [List.mem_cons, List.not_mem_nil, or_false] at he ⊢; rcases he with h | h | h | h <;> simp [h])
    have I2 : Inv X pins σ (upd H s.heap.objs.size (.tup [x, y])) { s with heap := h2, toks := s.toks } :=
      I.turnedT (its := [u, v]) fe kp2 (Nat.le_refl _) (by show 2 ≤ sizeLine; decide) (.cons ru (.cons rv .nil)) (sb_get sb2 nz gp1)
    refine ⟨.ref s.heap.objs.size, _, I2, rfl, ⟨_, x, y, rfl, I.hok.fresh (Nat.le_refl _), rfl, fun zs hz => by rw [I.tuple_inj hz hx]; exact ex, fun zs hz => by rw [I.tuple_inj hz hy]; exact ey⟩, ⟨gz2, gi2, ⟨u, v, sb_get sb2 dj.TOz gq1⟩, itup_sb r11 sb2 dj.i1z, itup_sb r21 sb2 dj.i2z⟩, fun c hc => ?_⟩
    have f0 := (hf c hc).1
    have cl : c < s.heap.objs.size := by
      simp only [List.mem_cons, List.not_mem_nil, or_false] at hc
      rcases hc with rfl | rfl | rfl | rfl | rfl
      · exact zl
      · exact Heap.lt_size gi
      · exact Heap.lt_size gq
      · obtain ⟨o, q, _⟩ := r1; exact Heap.lt_size q
      · obtain ⟨o, q, _⟩ := r2; exact Heap.lt_size q
    rw [upd_ne (Nat.ne_of_lt cl)]; exact f0
  done := by
    intro X hP hw hK hc i pins s σ H E I hf st hg
    subst hP hw hK
    obtain ⟨xs, hx, hi⟩ := hg
    obtain ⟨us, rx, px, _⟩ := I.tuple hx
    obtain ⟨gz, gi, ⟨u0, v0, gq⟩, r1, r2⟩ := st
    have hl := rx.length
    refine zipT_nextE (I.ok.hd hc) dj gz gi r1 (show s.heap.IsTuple a us.toArray from px) (by simp; omega) fun h' kp => ⟨rfl, ?_⟩
    have fe : ∀ e ∈ [z, i1], FpOk X pins H e := fun e he => hf e (by simp only [List.mem_cons, List.not_mem_nil, or_false] at he ⊢; rcases he with h | h <;> simp [h])
    refine I.turnedL (t' := s.toks) fe fun c o hc e => ?_
    simp only [List.mem_cons, List.not_mem_nil, or_false, not_or] at hc
    exact kp c o hc.1 hc.2 e
  self := fun _ _ _ _ _ st h => wpAny_pyIter_zip st.1 h
section
variable {X : Cx}
def iZipT (K : PySem.W.Frag) (ta : TA) : TI := fun σ H R => ta σ H fun vs H1 => ∃ a b xs ys, vs = [.ref a, .ref b] ∧ SqT K H1 a xs ∧ SqT K H1 b ys ∧ xs.length = ys.length ∧ R (Itz K a b) H1
theorem pi_zipT {es : List Expr} {x1 : Nat} {tpos : Pos} {a b : Expr} {ta : TA} {p pos : Pos} (hg : Gl X "zip") (hm : X.mg "zip" = none) (ha : PA X [a, b] ta) (hs : starEach [a, b] X.env = [(false, eval a X.env), (false, eval b X.env)] := by rfl) (hs2 : starEach [b] X.env = [(false, eval b X.env)] := by rfl) :
    PI X (.Tuple es x1 tpos) (.Call (.Name "zip" p) [a, b] [] pos) (iZipT X.K ta) := by
  intro pins s σ H R I h
  refine Call_ (ld_blt I hg hm PyProof.Rows.boot_zip (PyProof.Rows.callWith_type1 (thn (ha pos pins s σ H _ I h) fun us s1 ⟨vs, H1, I1, r1, q1⟩ => ?_) (by rw [hs, hs2]) (by rw [hs2]; rfl)))
  obtain ⟨l, m, xs, ys, rfl, hl, hm', hxy, q⟩ := q1
  obtain ⟨u1, u2, rfl, ru1, ru2⟩ := r1.two
  obtain rfl : u1 = Value.ref l := ru1
  obtain rfl : u2 = Value.ref m := ru2
  obtain ⟨its, rv, pt, _⟩ := I1.tuple hl
  obtain ⟨its2, rv2, pt2, _⟩ := I1.tuple hm'
  have hlt : l < s1.heap.objs.size := by obtain ⟨o, e, _⟩ := pt; exact Heap.lt_size e
  have hlt2 : m < s1.heap.objs.size := by obtain ⟨o, e, _⟩ := pt2; exact Heap.lt_size e
  refine zipT_call (show s1.heap.IsTuple l its.toArray from pt) (show s1.heap.IsTuple m its2.toArray from pt2) fun h' gz gi gq r1 r2 k => ?_
  refine wpAny_pyIter_zip gz ?_
  have I2 : Inv X pins σ H1 { s1 with heap := h' } := I1.kept (t' := s1.toks) k
  refine ⟨s1.heap.objs.size + 4, [s1.heap.objs.size + 4, s1.heap.objs.size + 2, s1.heap.objs.size + 3, s1.heap.objs.size, s1.heap.objs.size + 1], _, _, H1, rfl, I2, turn_zip l m _ _ _ _ _ (zipApart_new hlt hlt2), ⟨gz, gi, ⟨_, _, gq⟩, r1, r2⟩, fun b hb => ?_, q⟩
  have hb' : s1.heap.objs.size ≤ b := by
    simp only [List.mem_cons, List.not_mem_nil, or_false] at hb
    rcases hb with rfl | rfl | rfl | rfl | rfl
    · exact Nat.le_add_right _ _
    · exact Nat.le_add_right _ _
    · exact Nat.le_add_right _ _
    · exact Nat.le_refl _
    · exact Nat.le_add_right _ _
  exact I1.fpOk hb' (I1.hok.fresh hb')
theorem comp_zip {K : PySem.W.Frag} {a b D : Addr} {xs ys : List V} {g : TG} {tt : TT} {te : TE} {fin : Hp → Prop} {σB : St} {H0 : Hp} (hxy : xs.length = ys.length) (Pv : Nat → List V → St → Hp → Prop) (h0 : Pv 0 [] σB H0)
    (hl : ∀ i zs σ H, i ≤ xs.length → Pv i zs σ H → SqT K H a xs ∧ SqT K H b ys)
    (hs : ∀ i x y p zs σ H (Kt : V → St → Hp → Prop) (Kf : St → Hp → Prop), xs[i]? = some x → ys[i]? = some y → Pv i zs σ H → H p = none →
      (∀ v σ2 H4, H4 D = some (.lst zs) → zs.length < sizeLine → Pv (i + 1) (zs ++ [v]) σ2 (upd H4 D (.lst (zs ++ [v]))) → Kt v σ2 H4) → (∀ σ2 H3, Pv (i + 1) zs σ2 H3 → Kf σ2 H3) →
      g (.ref p) σ (upd H p (.tup [x, y])) fun σ2 H2 => tt σ2 H2 fun b H3 => if b = true then te σ2 H3 fun v H4 => Kt v σ2 H4 else Kf σ2 H3)
    (hd : ∀ zs σ H, Pv xs.length zs σ H → fin H) : CompW (Itz K a b) g tt te D fin σB H0 := by
  refine ⟨fun i m σ H => m = xs.length - i ∧ i ≤ xs.length ∧ ∃ zs, Pv i zs σ H, ⟨xs.length, by simp, Nat.zero_le _, [], h0⟩, ?_⟩
  rintro i m σ H ⟨rfl, hi, zs, p⟩
  obtain ⟨q1, q2⟩ := hl i zs σ H hi p
  by_cases hlt : i < xs.length
  · have hlt2 : i < ys.length := by omega
    refine .inr ⟨⟨xs, ys, xs[i], ys[i], q1, q2, by simp [hlt], by simp [hlt2]⟩, ?_⟩
    rintro v H' ⟨pp, x, y, rfl, hn, rfl, hv1, hv2⟩
    exact hs i x y pp zs σ _ (fun v σ2 H4 => ∃ zs, H4 D = some (.lst zs) ∧ zs.length < sizeLine ∧ ∃ m', m' < xs.length - i ∧ m' = xs.length - (i + 1) ∧ i + 1 ≤ xs.length ∧ ∃ zs', Pv (i + 1) zs' σ2 (upd H4 D (.lst (zs ++ [v]))))
      (fun σ2 H3 => ∃ m', m' < xs.length - i ∧ m' = xs.length - (i + 1) ∧ i + 1 ≤ xs.length ∧ ∃ zs', Pv (i + 1) zs' σ2 H3) (hv1 xs q1) (hv2 ys q2) p hn
      (fun v σ2 H4 z1 z2 z3 => ⟨zs, z1, z2, _, by omega, rfl, hlt, _, z3⟩) (fun σ2 H3 z => ⟨_, by omega, rfl, hlt, _, z⟩)
  · have e : i = xs.length := by omega
    subst e
    exact .inl ⟨⟨xs, q1, Nat.le_refl _⟩, hd zs σ H p⟩
end
end L2

set_option maxHeartbeats 1500000
namespace L2
open PySem PySem.Spec PyProof.Rows
section
variable {X : Cx}
/-! ### two tuples of flat values alike; a pair in a list of pairs -/
theorem items_flat {s : Shared} {A : Around} {xs ys : List V} {us vs : List Value} (rx : Vals xs us) (ry : Vals ys vs) (fx : xs.all flatV = true) (fy : ys.all flatV = true) :
    ∀ j (h1 : j < us.toArray.size) (h2 : j < vs.toArray.size), SeqAt.EqAt A s us.toArray[j] vs.toArray[j] (eqV (xs.getD j .non) (ys.getD j .non)) := by
  intro j h1 h2
  have j1 : j < xs.length := by rw [rx.length]; simpa using h1
  have j2 : j < ys.length := by rw [ry.length]; simpa using h2
  have e1 : xs[j]? = some (xs.getD j .non) := by rw [List.getD_eq_getElem?_getD, List.getElem?_eq_getElem j1]; rfl
  have e2 : ys[j]? = some (ys.getD j .non) := by rw [List.getD_eq_getElem?_getD, List.getElem?_eq_getElem j2]; rfl
  obtain ⟨u, hu1, ru⟩ := rx.get e1
  obtain ⟨v, hv1, rv⟩ := ry.get e2
  have eu : us.toArray[j] = u := by
    have : us[j]? = some us.toArray[j] := by simp at h1 ⊢
    rw [hu1] at this; exact (Option.some.inj this).symm
  have ev : vs.toArray[j] = v := by
    have : vs[j]? = some vs.toArray[j] := by simp at h2 ⊢
    rw [hv1] at this; exact (Option.some.inj this).symm
  rw [eu, ev]
  exact eqAt_V ru rv (List.all_eq_true.mp fx _ (List.mem_of_getElem? e1)) (List.all_eq_true.mp fy _ (List.mem_of_getElem? e2))
theorem tup_eqAt {pins : List (Addr × Obj)} {σ : St} {H : Hp} {s : Shared} {A : Around} {a b : Addr} {xs ys : List V} (I : Inv X pins σ H s) (hu : A.units + 1 < cLine) (ha : SqT X.K H a xs) (hb : SqT X.K H b ys) (hl : xs.length = ys.length) (fx : xs.all flatV = true) (fy : ys.all flatV = true) :
    SeqAt.EqAt A s (.ref a) (.ref b) (allEq eqV xs ys) := by
  by_cases hab : a = b
  · subst hab
    have e1 := I.tuple_inj ha hb
    subst e1
    have e2 : allEq eqV xs xs = true := by
      clear ha hb hl fy
      induction xs with
      | nil => rfl
      | cons x xs ih =>
        rw [List.all_cons, Bool.and_eq_true] at fx
        rw [allEq, ih fx.2, Bool.and_true]
        cases x <;> first | rfl | (show (_ == _) = true; simp) | exact absurd (show false = true from fx.1) Bool.false_ne_true
    rw [e2]
    exact SeqAt.EqAt.same _
  · obtain ⟨us, r1, p1, _⟩ := I.tuple ha
    obtain ⟨vs, r2, p2, _⟩ := I.tuple hb
    have h := SeqAt.RcAt.tuples (A := A) (s := s) (l := a) (b := b) (e := fun i => eqV (xs.getD i .non) (ys.getD i .non)) (show s.heap.IsTuple a us.toArray from p1) (show s.heap.IsTuple b vs.toArray from p2) (by omega)
      (items_flat r1 r2 fx fy)
    refine SeqAt.EqAt.of_refs hab ?_
    have er : ((List.range (min us.toArray.size vs.toArray.size)).all (fun i => eqV (xs.getD i .non) (ys.getD i .non)) && us.toArray.size == vs.toArray.size) = allEq eqV xs ys := by
      rw [List.size_toArray, List.size_toArray, ← r1.length, ← r2.length, ← hl, Nat.min_self, beq_self_eq_true, Bool.and_true, allEq_range hl]
    rw [er] at h
    exact h
theorem pair_allEq {p q : Int × Int} : allEq eqV [.int p.1, .int p.2] [.int q.1, .int q.2] = decide (p = q) := by
  obtain ⟨a, b⟩ := p
  obtain ⟨c, d⟩ := q
  show ((a == c) && ((b == d) && true)) = decide ((a, b) = (c, d))
  by_cases h1 : a = c <;> by_cases h2 : b = d <;> simp [h1, h2]
/-- a pair in a list of pairs -/
def rInP (K : PySem.W.Frag) (neg : Bool) : R2 := fun x y H Q => ∃ (p l : Addr) (u : Int × Int) (as : List Addr) (ps : List (Int × Int)), x = .ref p ∧ y = .ref l ∧ SqT K H p [.int u.1, .int u.2] ∧ SqL K H l (as.map V.ref) ∧ as.length = ps.length ∧ (∀ i, i < ps.length → SqT K H (as.getD i 0) [.int (ps.getD i (0, 0)).1, .int (ps.getD i (0, 0)).2]) ∧
  Q (.bl (if neg then !decide (u ∈ ps) else decide (u ∈ ps))) H
open Classical in
theorem inP_any {pins : List (Addr × Obj)} {σ : St} {H : Hp} {s : Shared} (I : Inv X pins σ H s) {u : Int × Int} : ∀ {as : List Addr} {ps : List (Int × Int)}, as.length = ps.length → (∀ i, i < ps.length → SqT X.K H (as.getD i 0) [.int (ps.getD i (0, 0)).1, .int (ps.getD i (0, 0)).2]) →
    ((as.map Value.ref).any fun v => decide (∃ a, v = Value.ref a ∧ SqT X.K H a [.int u.1, .int u.2])) = decide (u ∈ ps)
  | [], [], _, _ => by simp
  | a :: as, p :: ps, hl, h => by
    have ih := inP_any I (u := u) (as := as) (ps := ps) (by simpa using hl) (fun i hi => h (i + 1) (by simpa using hi))
    have h0 : SqT X.K H a [.int p.1, .int p.2] := h 0 (by simp)
    rw [List.map_cons, List.any_cons, ih]
    have e : decide (∃ b, Value.ref a = Value.ref b ∧ SqT X.K H b [.int u.1, .int u.2]) = decide (u = p) := by
      rw [Bool.eq_iff_iff, decide_eq_true_iff, decide_eq_true_iff]
      constructor
      · rintro ⟨b, e, hb⟩
        cases e
        have := I.tuple_inj h0 hb
        have e1 : p.1 = u.1 := V.int.inj (List.cons.inj this).1
        have e2 : p.2 = u.2 := V.int.inj (List.cons.inj (List.cons.inj this).2).1
        exact Prod.ext e1.symm e2.symm
      · rintro rfl
        exact ⟨a, rfl, h0⟩
    rw [e]
    by_cases z : u = p
    · simp [z]
    · simp [z]
open Classical in
theorem inP_eqAt {pins : List (Addr × Obj)} {σ : St} {H : Hp} {s : Shared} {A : Around} (I : Inv X pins σ H s) (hu : A.units + 1 < cLine) {p : Addr} {u : Int × Int} (hp : SqT X.K H p [.int u.1, .int u.2]) {as : List Addr} {ps : List (Int × Int)} (hl : as.length = ps.length)
    (h : ∀ i, i < ps.length → SqT X.K H (as.getD i 0) [.int (ps.getD i (0, 0)).1, .int (ps.getD i (0, 0)).2]) : ∀ v ∈ as.map Value.ref, SeqAt.EqAt A s v (.ref p) (decide (∃ a, v = Value.ref a ∧ SqT X.K H a [.int u.1, .int u.2])) := by
  intro v hv
  obtain ⟨a, ha, rfl⟩ := List.mem_map.mp hv
  obtain ⟨i, hi, e⟩ := List.mem_iff_getElem.mp ha
  have hq := h i (by omega)
  have ea : as.getD i 0 = a := by rw [List.getD_eq_getElem?_getD, List.getElem?_eq_getElem hi]; exact e
  rw [ea] at hq
  have z := tup_eqAt (A := A) I hu hq hp rfl rfl rfl
  rw [pair_allEq] at z
  have e : decide (∃ b, Value.ref a = Value.ref b ∧ SqT X.K H b [.int u.1, .int u.2]) = decide (ps.getD i (0, 0) = u) := by
    rw [Bool.eq_iff_iff, decide_eq_true_iff, decide_eq_true_iff]
    constructor
    · rintro ⟨b, e, hb⟩
      cases e
      have := I.tuple_inj hq hb
      exact Prod.ext (V.int.inj (List.cons.inj this).1) (V.int.inj (List.cons.inj (List.cons.inj this).2).1)
    · intro e
      rw [← e]
      exact ⟨a, rfl, hq⟩
  rw [e]
  exact z
open Classical in
theorem op_inP (hu : X.A.units + 2 < cLine) : OpR X (compareOp .In) (rInP X.K false) := by
  intro pins s σ H x y v u Q I rx ry h
  obtain ⟨p, l, w, as, ps, rfl, rfl, hp, hl, hlen, hps, q⟩ := h
  obtain rfl : v = Value.ref p := rx
  obtain rfl : u = Value.ref l := ry
  obtain ⟨its, r, pl, _⟩ := I.list hl
  have e := refs_of' r
  subst e
  refine SeqAt.in_listAt (fun v => decide (∃ a, v = Value.ref a ∧ SqT X.K H a [.int w.1, .int w.2])) pl.isList (fun y hy => inP_eqAt I (by show X.A.units + 1 + 1 < cLine; omega) hp hlen hps y (by simpa using hy)) ⟨.bl _, H, I, rfl, ?_⟩
  rw [show (as.map Value.ref).toArray.any (fun v => decide (∃ a, v = Value.ref a ∧ SqT X.K H a [.int w.1, .int w.2])) = (as.map Value.ref).any (fun v => decide (∃ a, v = Value.ref a ∧ SqT X.K H a [.int w.1, .int w.2])) by simp, inP_any I hlen hps]
  exact q
open Classical in
theorem op_notInP (hu : X.A.units + 2 < cLine) : OpR X (compareOp .NotIn) (rInP X.K true) := by
  intro pins s σ H x y v u Q I rx ry h
  obtain ⟨p, l, w, as, ps, rfl, rfl, hp, hl, hlen, hps, q⟩ := h
  obtain rfl : v = Value.ref p := rx
  obtain rfl : u = Value.ref l := ry
  obtain ⟨its, r, pl, _⟩ := I.list hl
  have e := refs_of' r
  subst e
  refine SeqAt.notIn_listAt (fun v => decide (∃ a, v = Value.ref a ∧ SqT X.K H a [.int w.1, .int w.2])) pl.isList (fun y hy => inP_eqAt I (by show X.A.units + 1 + 1 < cLine; omega) hp hlen hps y (by simpa using hy)) ⟨.bl _, H, I, rfl, ?_⟩
  rw [show (as.map Value.ref).toArray.any (fun v => decide (∃ a, v = Value.ref a ∧ SqT X.K H a [.int w.1, .int w.2])) = (as.map Value.ref).any (fun v => decide (∃ a, v = Value.ref a ∧ SqT X.K H a [.int w.1, .int w.2])) by simp, inP_any I hlen hps]
  exact q
/-! ### (a, b) = a list of two -/
def gTupL (K : PySem.W.Frag) (t : TGs) : TG := fun v σ H Q => ∃ a x y, v = .ref a ∧ SqL K H a [x, y] ∧ t [x, y] σ H Q
theorem pg_tupL {es : List Expr} {k : Nat} {t : TGs} {pos : Pos} (hc : X.calm = true) (h : PGs X es t) (hn : (assignEach es X.env).length = 2 := by rfl) (hst : (assignEach es X.env).findIdx? (·.1) = none := by rfl) : PG X (.Tuple es k pos) (gTupL X.K t) := by
  intro pins s σ H v u Q I r hw
  obtain ⟨a, x, y, e1, hq, hw⟩ := hw
  subst e1
  cases r
  obtain ⟨its, rv, ht, hz⟩ := I.list hq
  obtain ⟨u1, u2, rfl, r1, r2⟩ := rv.two
  have hlt : a ≠ s.heap.objs.size := by
    obtain ⟨o, ho, _⟩ := ht.isList
    exact Nat.ne_of_lt (Heap.lt_size ho)
  rw [assign_Tuple]
  refine wpAny_bind (wpAny_standAt ?_)
  unfold unpack
  rw [hn, hst]
  refine wpAny_bind (wpAny_holding ?_)
  unfold unpackItems
  refine wpAny_bind ?_
  unfold notIterableAtAll
  refine wpAny_bind (wpAny_specialOf ht.isList.typeIs slot_list_iter.lookup (wpAny_pure ?_))
  simp only [Bool.false_eq_true, if_false]
  refine wpAny_bind (wpAny_holding (wpAny_pyIter_list ht.isList ?_))
  have hL0 : (s.heap.push { cls := .type "list_iterator", data := .fields #[.ref a, .int 0 0] }).IsList a [u1, u2].toArray := ht.isList.push _
  refine wpAny_bind (wpAny_holding ?_)
  change wpAny _ _ (pyNext (.ref s.heap.objs.size) >>= _) _ _ _
  refine wpAny_bind (wpAny_pyNext_list_item (it := s.heap.objs.size) (l := a) (i := 0) (s := { s with heap := s.heap.push { cls := .type "list_iterator", data := .fields #[.ref a, .int 0 0] } }) ⟨_, Heap.get?_push_size _ rfl, rfl, rfl⟩ hL0 (x := u1) rfl fun h1 it1 sb1 => ?_)
  refine wpAny_bind (wpAny_holding ?_)
  change wpAny _ _ (pyNext (.ref s.heap.objs.size) >>= _) _ _ _
  have hL1 : h1.IsList a [u1, u2].toArray := hL0.extBut sb1.extBut hlt
  refine wpAny_bind (wpAny_pyNext_list_item (s := { s with heap := h1 }) it1 hL1 (x := u2) rfl fun h2 it2 sb2 => ?_)
  have hL2 : h2.IsList a [u1, u2].toArray := hL1.extBut sb2.extBut hlt
  refine wpAny_bind (wpAny_holding (wpAny_pure (wpAny_pure (wpAny_pure ?_))))
  rw [if_neg (by simp)]
  refine wpAny_bind (wpAny_holding (wpAny_pyNext_list_end (s := { s with heap := h2 }) (I.ok.hd hc) it2 hL2 rfl fun h3 eb3 => ?_))
  simp only [Option.isSome_none, Bool.false_eq_true, if_false]
  refine wpAny_pure ?_
  have I1 : Inv X pins σ H { s with heap := h3 } := I.kept (t' := s.toks) fun b o e => by
    have nb : b ≠ s.heap.objs.size := Nat.ne_of_lt (Heap.lt_size e)
    exact eb3 b o nb (sb2.extBut b o nb (sb1.extBut b o nb (Heap.get?_push_of_some _ e)))
  exact h pins _ σ H [x, y] _ Q I1 (.cons r1 (.cons r2 .nil)) hw
end
end L2

set_option maxHeartbeats 1500000
namespace L2
open PySem PySem.Spec PyProof.Rows PySem.W
theorem sorted_heap {h : Heap} {vs : List Value} {out : Array Value} : (∃ e, (sortedAll h vs out).get? (h.objs.size + 1) = some (seqObj "list" out e)) ∧ ∀ b u, h.get? b = some u → (sortedAll h vs out).get? b = some u := by
  have sz1 : ((h.push (seqObj "list" #[] 0)).update h.objs.size (Obj.mapSeq (· ++ vs.toArray))).objs.size = h.objs.size + 1 := by rw [Heap.size_update, size_push']
  have k1 : ∀ b u, h.get? b = some u → (((h.push (seqObj "list" #[] 0)).update h.objs.size (Obj.mapSeq (· ++ vs.toArray))).push (seqObj "list" vs.toArray 0)).get? b = some u := fun b u e => by
    have hb : b < h.objs.size := Heap.lt_size e
    rw [Heap.get?_push_ne _ _ _ (by rw [sz1]; exact Nat.ne_of_lt (Nat.lt_succ_of_lt hb)), Heap.get?_update_ne _ _ _ _ (Nat.ne_of_lt hb), Heap.get?_push_ne _ _ _ (Nat.ne_of_lt hb)]
    exact e
  have hoL : (((h.push (seqObj "list" #[] 0)).update h.objs.size (Obj.mapSeq (· ++ vs.toArray))).push (seqObj "list" vs.toArray 0)).get? (h.objs.size + 1) = some (seqObj "list" vs.toArray 0) := by
    rw [← sz1]; exact Heap.get?_push_size _ rfl
  have sz2 : (((h.push (seqObj "list" #[] 0)).update h.objs.size (Obj.mapSeq (· ++ vs.toArray))).push (seqObj "list" vs.toArray 0)).objs.size = h.objs.size + 2 := by rw [size_push', sz1]
  unfold sortedAll
  revert k1 hoL sz2
  generalize ((h.push (seqObj "list" #[] 0)).update h.objs.size (Obj.mapSeq (· ++ vs.toArray))).push (seqObj "list" vs.toArray 0) = h1
  intro k1 hoL sz2
  obtain ⟨e1, ho1⟩ : ∃ e1, (h1.update (h.objs.size + 1) (Obj.mapSeq fun _ => (#[] : Array Value))).get? (h.objs.size + 1) = some (seqObj "list" #[] e1) := ⟨_, get?_update_seq hoL (fun _ => #[])⟩
  have ho6 : (((h1.update (h.objs.size + 1) (Obj.mapSeq fun _ => (#[] : Array Value))).push (seqObj "tuple" vs.toArray 0)).push (seqObj "list" #[] 0)).get? (h.objs.size + 1) = some (seqObj "list" #[] e1) := by
    rw [Heap.get?_push_ne _ _ _ (by rw [size_push', Heap.size_update, sz2]; exact Nat.ne_of_lt (Nat.lt_succ_of_lt (Nat.lt_succ_self _))), Heap.get?_push_ne _ _ _ (by rw [Heap.size_update, sz2]; exact Nat.ne_of_lt (Nat.lt_succ_self _))]
    exact ho1
  refine ⟨⟨_, get?_update_seq ho6 (fun _ => out)⟩, fun b u e => ?_⟩
  have hb : b < h.objs.size := Heap.lt_size e
  unfold sortedHeap
  rw [Heap.get?_update_ne _ _ _ _ (Nat.ne_of_lt (Nat.lt_succ_of_lt hb)), Heap.get?_push_ne _ _ _ (by rw [size_push', Heap.size_update, sz2]; exact Nat.ne_of_lt (Nat.lt_succ_of_lt (Nat.lt_succ_of_lt (Nat.lt_succ_of_lt hb)))), Heap.get?_push_ne _ _ _ (by rw [Heap.size_update, sz2]; exact Nat.ne_of_lt (Nat.lt_succ_of_lt (Nat.lt_succ_of_lt hb))), Heap.get?_update_ne _ _ _ _ (Nat.ne_of_lt (Nat.lt_succ_of_lt hb))]
  exact k1 b u e
/-- sorted of fewer than 64 ints: these, in some order -/
def rSortI (K : PySem.W.Frag) : List V → Hp → VK → Prop := fun xs H Q => ∃ (l : Addr) (ns : List Int), xs = [.ref l] ∧ SqL K H l (ns.map V.int) ∧ ns.length < 64 ∧ ∀ (D : Addr) (ns' : List Int), H D = none → ns'.Perm ns → Q (.ref D) (upd H D (.lst (ns'.map V.int)))
theorem call_sortI {X : Cx} : CallR X (.builtin "sorted") (rSortI X.K) := by
  intro pins s σ H xs us Q I r h
  obtain ⟨l, ns, rfl, hl, h64, q⟩ := h
  obtain ⟨u1, rfl, r1⟩ := r.one
  obtain rfl : u1 = Value.ref l := r1
  obtain ⟨its, rv, pl, _⟩ := I.list hl
  have ia := intsAre_of rv
  refine sorted_ints pl.isList ia (by rw [ia.length]; exact h64) fun out ns' a1 a2 _ => ?_
  obtain ⟨⟨e, ho⟩, keep⟩ := sorted_heap (h := s.heap) (vs := its) (out := out)
  have hnone : s.heap.get? (s.heap.objs.size + 1) = none := Heap.get?_none_of_le (Nat.le_succ _)
  have eo : out = out.toList.toArray := by simp
  refine ⟨.ref (s.heap.objs.size + 1), _, I.laidN (t' := s.toks) (o := .lst (ns'.map V.int)) keep hnone ⟨?_, out.toList, e, vals_ints a1, by rw [ho]⟩, rfl, q _ ns' (I.hok.freshN hnone) a2⟩
  rw [List.length_map, a2.length_eq]
  exact Nat.le_trans (Nat.le_of_lt h64) (by decide)
/-- two tuples that hold the same flat values -/
theorem elEq_tupT {X : Cx} {H : Hp} {a b : Addr} {xs : List V} (ha : SqT X.K H a xs) (hb : SqT X.K H b xs) (fx : xs.all flatV = true) (he : allEq eqV xs xs = true) : ElEq X H (fun _ _ => true) (.ref a) (.ref b) := by
  intro pins s σ A u v I hu ru rv
  obtain rfl : u = Value.ref a := ru
  obtain rfl : v = Value.ref b := rv
  have z := tup_eqAt (A := A) I hu ha hb rfl fx fx
  rw [he] at z
  exact z
theorem allEq_true : ∀ {xs ys : List V}, xs.length = ys.length → allEq (fun _ _ => true) xs ys = true
  | [], [], _ => rfl
  | _ :: xs, _ :: ys, h => by
    have := allEq_true (xs := xs) (ys := ys) (by simpa using h)
    rw [allEq, this]; rfl
end L2

set_option maxHeartbeats 1500000
namespace K51
open PySem L2
def top (i : Nat) : Stmt := PySem.Challenge.pw_neverwait_k51_stands_of_a_log.main.body.getD i (.Pass ⟨0, 0, 0, 0⟩)
abbrev sPot : Stmt := top 5
abbrev sTake : Stmt := top 6
structure Bl (mg : Str → Option Value) : Prop where
  isi : mg "isinstance" = none
  int : mg "int" = none
  lst : mg "list" = none
  tup : mg "tuple" = none
  len : mg "len" = none
  range : mg "range" = none
  all : mg "all" = none
  abs : mg "abs" = none
  max : mg "max" = none
  min : mg "min" = none
  sorted : mg "sorted" = none
  zip : mg "zip" = none
theorem ite_t {A B : Prop} (h : A) : if true = true then A else B := by rw [if_pos rfl]; exact h
theorem ite_f {A B : Prop} (h : B) : if false = true then A else B := by rw [if_neg (by decide)]; exact h
theorem ite_c {c : Prop} [Decidable c] {A : Prop} {C : Hp → Prop} {H0 : Hp} (G : Hp → Prop) (hC : ∀ Hc, G Hc → C Hc) (h1 : c → (∀ Hc, G Hc → C Hc) → A) (h2 : ¬ c → G H0) : if c then A else C H0 := by
  split
  · exact h1 (by assumption) hC
  · exact hC _ (h2 (by assumption))
theorem ite_s {c : Prop} [Decidable c] {A : Prop} {C : St → Hp → Prop} {σ0 : St} {H0 : Hp} (G : St → Hp → Prop) (hC : ∀ σ H, G σ H → C σ H) (h1 : c → (∀ σ H, G σ H → C σ H) → A) (h2 : ¬ c → G σ0 H0) : if c then A else C σ0 H0 := by
  split
  · exact h1 (by assumption) hC
  · exact hC _ _ (h2 (by assumption))
/-- // by a positive divisor of up to 64 bits -/
theorem op_fdivW {X : Cx} : OpR X (binaryOp .FloorDiv) (rI (fun _ j => 0 < j ∧ j < 2 ^ 64) fun i j => .int (i / j)) := opI fun i j _ _ _ _ _ hc q => by
  have h1 : (0 : Int) < j := hc.1
  have h2 : j < 2 ^ 64 := hc.2
  refine PyProof.Rows.floordiv_int (by omega) (by rw [Int.fdiv_eq_ediv_of_nonneg i (by omega)]; exact q) (.inl (PyProof.noPylong_of_log2 ?_))
  have h3 : j.natAbs < 2 ^ 64 := by omega
  have h4 : j.natAbs ≠ 0 := by omega
  exact Nat.lt_trans ((Nat.log2_lt h4).mpr h3) (by decide)
/-- a pot of digits -/
def PotAt (H : Hp) (p : Addr) : Prop := ∃ a b c : Int, H p = some (.lst [.int a, .int b, .int c]) ∧ 0 ≤ a ∧ (0 ≤ b ∧ b < 4294967296) ∧ (0 ≤ c ∧ c < 4294967296)
theorem PotAt.same {H H' : Hp} {p : Addr} (h : PotAt H p) (s : Same H H') : PotAt H' p := let ⟨a, b, c, e, r⟩ := h; ⟨a, b, c, s _ _ e, r⟩
theorem PotAt.full {H : Hp} {p : Addr} (h : PotAt H p) : H p ≠ none := by obtain ⟨a, b, c, e, _⟩ := h; rw [e]; intro z; cases z
theorem PotAt.ne {H : Hp} {p q : Addr} (h : PotAt H p) (e : H q = none) : q ≠ p := by rintro rfl; exact h.full e
theorem PotAt.put {H : Hp} {p q : Addr} {o : HO} (h : PotAt H p) (n : p ≠ q) : PotAt (upd H q o) p := let ⟨a, b, c, e, r⟩ := h; ⟨a, b, c, by rw [upd_ne n]; exact e, r⟩
theorem PotAt.neT {H : Hp} {p q : Addr} {xs : List V} (h : PotAt H p) (e : H q = some (.tup xs)) : q ≠ p := by rintro rfl; obtain ⟨a, b, c, z, _⟩ := h; rw [e] at z; cases z
/-- a list made since stays free to change -/
theorem sameE_put {p D : Addr} {H H' : Hp} {o : HO} (s : SameE p H H') (hD : H D = none) : SameE p H (upd H' D o) := fun b u e n => by rw [upd_ne (ne_of_none e hD)]; exact s b u e n
theorem same_put {D : Addr} {H H' : Hp} {o : HO} (s : Same H H') (hD : H D = none) : Same H (upd H' D o) := fun b u e => by rw [upd_ne (ne_of_none e hD)]; exact s b u e
section
variable {P : Program} {w : World} {K : PySem.W.Frag} {mg : Str → Option Value} {base : Heap}
theorem scPot : FnScope ["_law_script", "_law_k", "_law_cell", "_law_first"] ["_law_script", "_law_k"] (defScope sPot) := ⟨rfl, rfl, rfl, by decide +kernel, rfl, by decide +kernel, by decide +kernel⟩
def spPot (K : PySem.W.Frag) : Sp := fun vs H Q _ => ∃ (a : Addr) (ns : List Int) (k : Nat), vs = [.ref a, .int k] ∧ SqL K H a (ns.map V.int) ∧ k < 64 ∧ ∀ (r : Addr) (H' : Hp), Same H H' → H r = none → PotAt H' r → Q (.ref r) H'
theorem ok_pot {f : Addr} {fd : FuncData} (F : Fun K "_law_pot" "_law_pot" sPot f fd) (B : Bl mg) : FnOk P w K mg base CX0 1 f fd ["_law_script", "_law_k"] (spPot K) := by
  refine F.ok scPot (fun vs H Q E h => ?_) (fun cdv A outer s H vs Q E hr h => ?_)
  · obtain ⟨a, ns, k, rfl, _⟩ := h
    rfl
  · obtain ⟨a, ns, k, rfl, hS, hk, q⟩ := h
    refine ⟨_, pss_cons (ps_set (i := 2) scPot.nd rfl (Or.inl rfl) pe_int)
      (pss_cons (ps_if (pt_cmpR op_lt (pv 1) (pe_callB call_len_seq (by rfl) B.len PySem.boot_len (pa_cons (pv 0) pa_nil)) (nomark _)) (pss_one (ps_set (i := 2) scPot.nd rfl (Or.inl rfl) (pe_callB call_abs (by rfl) B.abs PyProof.Rows.boot_abs (pa_cons (pe_ix ix_list (pv 0) (pv 1) (fun _ _ => rfl)) pa_nil)))) pss_nil)
      (pss_cons (ps_set (i := 3) scPot.nd rfl (Or.inl rfl) (pe_op op_add (pe_op op_add (pe_op op_mod (pv 2) pe_int) (pe_op op_mul pe_int (pv 1))) pe_int))
      (pss_one (ps_ret (pe_lst (pa_cons (pe_callB (call_max2 rfl) (by rfl) B.max PyProof.Rows.boot_max (pa_cons pe_int (pa_cons (pe_op op_sub (pv 2) (pe_op op_pow pe_int pe_int)) pa_nil))) (pa_cons (pv 3) (pa_cons (pe_op op_add (pe_op op_add (pe_op op_mod (pe_op op_fdivW (pv 2) pe_int) pe_int) (pe_op op_mul pe_int (pv 1))) pe_int) pa_nil)))))))), ?_⟩
    refine ⟨_, rfl, _, rfl, a, ns.map V.int, rfl, .inl hS, _, _, rfl, rfl, _, rfl, ?_⟩
    refine ite_s (fun σ Hc => Hc = H ∧ ∃ c : Int, 0 ≤ c ∧ σ = [some (.ref a), some (.int k), some (.int c), none]) ?_ (fun e hC => ?_) (fun e => ⟨rfl, 0, by decide, rfl⟩)
    · rintro σ Hc ⟨rfl, c, c0, rfl⟩
      have m0 : 0 ≤ c % 2147483629 := Int.emod_nonneg _ (by decide)
      have m1 : c % 2147483629 < 2147483629 := Int.emod_lt_of_pos _ (by decide)
      have m2 : 0 ≤ c / 2147483629 % 2147483587 := Int.emod_nonneg _ (by decide)
      have m3 : c / 2147483629 % 2147483587 < 2147483587 := Int.emod_lt_of_pos _ (by decide)
      refine ⟨_, rfl, _, _, rfl, rfl, (by show (0 : Int) < 2147483629; decide), _, rfl, _, _, rfl, rfl, .inl ⟨by decide, by decide⟩, _, _, rfl, rfl, _, _, rfl, rfl, ?_⟩
      refine ⟨_, rfl, _, _, rfl, rfl, ⟨by decide, by decide, by decide⟩, _, _, rfl, rfl, _, _, rfl, _, rfl, _, rfl, _, _, rfl, rfl, ⟨by decide, by decide⟩, _, _, rfl, rfl, (by show (0 : Int) < 2147483587; decide), _, rfl, _, _, rfl, rfl, .inl ⟨by decide, by decide⟩, _, _, rfl, rfl, _, _, rfl, rfl, by show 3 ≤ sizeLine; decide, fun r hr' => ?_⟩
      refine q r _ (same_new hr') hr' ⟨_, _, _, upd_same, ?_, ⟨?_, ?_⟩, ⟨?_, ?_⟩⟩
      · split <;> omega
      · omega
      · omega
      · omega
      · omega
    · have hlt : k < ns.length := by
        have : (k : Int) < ((ns.map V.int).length : Int) := by simpa using e
        rw [List.length_map] at this; omega
      refine ⟨_, rfl, _, rfl, a, _, _, _, rfl, rfl, hS, atI_nat (v := .int ns[k]) (by rw [List.getElem?_map, List.getElem?_eq_getElem hlt]; rfl), _, rfl, hC _ _ ⟨rfl, _, ?_, rfl⟩⟩
      split <;> omega
theorem scTake : FnScope ["_law_pot_here", "_law_many", "_law_digit"] ["_law_pot_here", "_law_many"] (defScope sTake) := ⟨rfl, rfl, rfl, by decide +kernel, rfl, by decide +kernel, by decide +kernel⟩
def spTake : Sp := fun vs H Q _ => ∃ (p : Addr) (m : Int), vs = [.ref p, .int m] ∧ 0 < m ∧ m < 1000000 ∧ PotAt H p ∧ ∀ (d : Int) (H' : Hp), 0 ≤ d → d < m → SameE p H H' → PotAt H' p → Q (.int d) H'
theorem ok_take {f : Addr} {fd : FuncData} (F : Fun K "_law_take" "_law_take" sTake f fd) : FnOk P w K mg base CX0 1 f fd ["_law_pot_here", "_law_many"] spTake := by
  refine F.ok scTake (fun vs H Q E h => ?_) (fun cdv A outer s H vs Q E hr h => ?_)
  · obtain ⟨p, m, rfl, _⟩ := h
    rfl
  · obtain ⟨p, m, rfl, m0, m1, ⟨a, b, c, hp, a0, ⟨b0, b1⟩, ⟨c0, c1⟩⟩, q⟩ := h
    refine ⟨_, pss_cons (ps_if (pt_cmpR op_gt (pe_ix ix_list (pv 0) pe_int (fun _ _ => rfl)) pe_int (nomark _))
        (pss_cons (ps_set (i := 2) scTake.nd rfl (Or.inl rfl) (pe_op op_mod (pe_ix ix_list (pv 0) pe_int (fun _ _ => rfl)) (pv 1)))
        (pss_cons (ps_asg (pe_op op_fdiv (pe_ix ix_list (pv 0) pe_int (fun _ _ => rfl)) (pv 1)) (pg_sub (pv 0) pe_int set_list))
        (pss_one (ps_ret (pv 2))))) pss_nil)
      (pss_cons (ps_asg (pe_op op_mod (pe_op op_add (pe_op op_mul (pe_ix ix_list (pv 0) pe_int (fun _ _ => rfl)) pe_int) pe_int) pe_int) (pg_sub (pv 0) pe_int set_list))
      (pss_cons (ps_asg (pe_op op_mod (pe_op op_add (pe_op op_mul (pe_ix ix_list (pv 0) pe_int (fun _ _ => rfl)) pe_int) pe_int) pe_int) (pg_sub (pv 0) pe_int set_list))
      (pss_one (ps_ret (pe_op op_mod (pe_op op_fdiv (pe_op op_mod (pe_op op_add (pe_op op_mul (pe_ix ix_list (pv 0) pe_int (fun _ _ => rfl)) (pe_ix ix_list (pv 0) pe_int (fun _ _ => rfl))) (pe_op op_mul (pe_ix ix_list (pv 0) pe_int (fun _ _ => rfl)) (pe_ix ix_list (pv 0) pe_int (fun _ _ => rfl)))) pe_int) pe_int) (pv 1)))))), ?_⟩
    have g0 : ∀ a b c : Int, atI [V.int a, V.int b, V.int c] 0 = some (.int a) := fun a b c => atI_nat (j := 0) rfl
    have g1 : ∀ a b c : Int, atI [V.int a, V.int b, V.int c] 1 = some (.int b) := fun a b c => atI_nat (j := 1) rfl
    have g2 : ∀ a b c : Int, atI [V.int a, V.int b, V.int c] 2 = some (.int c) := fun a b c => atI_nat (j := 2) rfl
    refine ⟨_, rfl, p, _, _, _, rfl, rfl, SqL.of hp, g0 _ _ _, _, _, rfl, rfl, _, rfl, ?_⟩
    refine ite2 (fun e => ?_) (fun e => ?_)
    · refine ⟨_, rfl, p, _, _, _, rfl, rfl, SqL.of hp, g0 _ _ _, _, rfl, _, _, rfl, rfl, m0, ?_⟩
      refine ⟨_, rfl, p, _, _, _, rfl, rfl, SqL.of hp, g0 _ _ _, _, rfl, _, _, rfl, rfl, ⟨m0, by omega⟩, ?_⟩
      refine ⟨_, rfl, p, _, 0, 0, rfl, rfl, hp, ixN_nat (j := 0) (by show 0 < 3; decide), ?_⟩
      refine ⟨_, rfl, ?_⟩
      exact q _ _ (Int.emod_nonneg _ (by omega)) (Int.emod_lt_of_pos _ m0) SameE.upd ⟨_, _, _, upd_same, Int.ediv_nonneg a0 (by omega), ⟨b0, b1⟩, ⟨c0, c1⟩⟩
    · refine ⟨_, rfl, p, _, _, _, rfl, rfl, SqL.of hp, g1 _ _ _, _, _, rfl, rfl, .inl ⟨by omega, by omega⟩, _, _, rfl, rfl, _, _, rfl, rfl, (by show (0 : Int) < 2147483647; decide), ?_⟩
      refine ⟨_, rfl, p, _, 1, 1, rfl, rfl, hp, ixN_nat (j := 1) (by show 1 < 3; decide), ?_⟩
      have u0 : 0 ≤ (b * 48271 + 11) % 2147483647 := Int.emod_nonneg _ (by decide)
      have u1 : (b * 48271 + 11) % 2147483647 < 2147483647 := Int.emod_lt_of_pos _ (by decide)
      have hp2 : (upd H p (.lst [.int a, .int ((b * 48271 + 11) % 2147483647), .int c])) p = some (.lst [.int a, .int ((b * 48271 + 11) % 2147483647), .int c]) := upd_same
      refine ⟨_, rfl, p, _, _, _, rfl, rfl, SqL.of hp2, g2 _ _ _, _, _, rfl, rfl, .inl ⟨by omega, by omega⟩, _, _, rfl, rfl, _, _, rfl, rfl, (by show (0 : Int) < 2147483579; decide), ?_⟩
      refine ⟨_, rfl, p, _, 2, 2, rfl, rfl, hp2, ixN_nat (j := 2) (by show 2 < 3; decide), ?_⟩
      have v0 : 0 ≤ (c * 39373 + 17) % 2147483579 := Int.emod_nonneg _ (by decide)
      have v1 : (c * 39373 + 17) % 2147483579 < 2147483579 := Int.emod_lt_of_pos _ (by decide)
      have hp3 : (upd (upd H p (.lst [.int a, .int ((b * 48271 + 11) % 2147483647), .int c])) p (.lst [.int a, .int ((b * 48271 + 11) % 2147483647), .int ((c * 39373 + 17) % 2147483579)])) p = some (.lst [.int a, .int ((b * 48271 + 11) % 2147483647), .int ((c * 39373 + 17) % 2147483579)]) := upd_same
      refine ⟨_, rfl, p, _, _, _, rfl, rfl, SqL.of hp3, g1 _ _ _, _, rfl, p, _, _, _, rfl, rfl, SqL.of hp3, g2 _ _ _, _, _, rfl, rfl, .inl ⟨by omega, by omega⟩, _, rfl, p, _, _, _, rfl, rfl, SqL.of hp3, g1 _ _ _, _, rfl, p, _, _, _, rfl, rfl, SqL.of hp3, g1 _ _ _, _, _, rfl, rfl, .inl ⟨by omega, by omega⟩, _, _, rfl, rfl, _, _, rfl, rfl, (by show (0 : Int) < 2147483563; decide), _, _, rfl, rfl, ⟨by decide, by decide⟩, _, rfl, _, _, rfl, rfl, m0, ?_⟩
      exact q _ _ (Int.emod_nonneg _ (by omega)) (Int.emod_lt_of_pos _ m0) (SameE.trans SameE.upd SameE.upd) ⟨_, _, _, hp3, a0, ⟨u0, by omega⟩, ⟨v0, by omega⟩⟩
end
end K51

set_option maxHeartbeats 1500000
namespace K51
open PySem L2
/-! ### lists of pairs on the heap: each with its address -/
abbrev Zs := List (Addr × (Int × Int))
abbrev prT (u : Int × Int) : HO := .tup [.int u.1, .int u.2]
def zr (zs : Zs) : List V := zs.map fun z => V.ref z.1
def zp (zs : Zs) : List (Int × Int) := zs.map (·.2)
def PO (H : Hp) (zs : Zs) : Prop := ∀ z ∈ zs, H z.1 = some (prT z.2)
theorem zr_append {a b : Zs} : zr (a ++ b) = zr a ++ zr b := List.map_append
theorem zp_append {a b : Zs} : zp (a ++ b) = zp a ++ zp b := List.map_append
theorem zr_len {a : Zs} : (zr a).length = a.length := List.length_map _
theorem zp_len {a : Zs} : (zp a).length = a.length := List.length_map _
theorem zr_refs {a : Zs} : zr a = (a.map (·.1)).map V.ref := by unfold zr; rw [List.map_map]; rfl
theorem zr_get {zs : Zs} {i : Nat} {x : V} (h : (zr zs)[i]? = some x) : ∃ z, zs[i]? = some z ∧ x = .ref z.1 := by
  unfold zr at h
  rw [List.getElem?_map] at h
  cases e : zs[i]? with
  | none => rw [e] at h; cases h
  | some z => rw [e] at h; exact ⟨z, rfl, (Option.some.inj h).symm⟩
theorem PO.nil {H : Hp} : PO H [] := fun z hz => (nomatch hz)
theorem PO.same {H H' : Hp} {zs : Zs} (h : PO H zs) (s : Same H H') : PO H' zs := fun z hz => s _ _ (h z hz)
theorem PO.sameE {H H' : Hp} {p : Addr} {zs : Zs} (h : PO H zs) (s : SameE p H H') (hp : PotAt H p) : PO H' zs := fun z hz => s _ _ (h z hz) (hp.neT (h z hz))
theorem PO.putL {H : Hp} {D : Addr} {xs : List V} {o : HO} {zs : Zs} (h : PO H zs) (e : H D = some (.lst xs)) : PO (upd H D o) zs := fun z hz => by
  have := h z hz
  rw [upd_ne (by rintro rfl; rw [e] at this; cases this)]; exact this
theorem PO.putN {H : Hp} {D : Addr} {o : HO} {zs : Zs} (h : PO H zs) (e : H D = none) : PO (upd H D o) zs := h.same (same_new e)
theorem PO.append {H : Hp} {a b : Zs} (h : PO H a) (h' : PO H b) : PO H (a ++ b) := fun z hz => (List.mem_append.mp hz).elim (h z) (h' z)
theorem PO.one {H : Hp} {p : Addr} {u : Int × Int} (h : H p = some (prT u)) : PO H [(p, u)] := fun z hz => by rw [List.mem_singleton.mp hz]; exact h
theorem getD_fst {zs : Zs} {i : Nat} (h : i < zs.length) : (zs.map (·.1)).getD i 0 = zs[i].1 := by
  rw [List.getD_eq_getElem?_getD, List.getElem?_map, List.getElem?_eq_getElem h]; rfl
theorem getD_zp {zs : Zs} {i : Nat} (h : i < zs.length) : (zp zs).getD i (0, 0) = zs[i].2 := by
  unfold zp
  rw [List.getD_eq_getElem?_getD, List.getElem?_map, List.getElem?_eq_getElem h]; rfl
theorem inP_of {K : PySem.W.Frag} {neg : Bool} {H : Hp} {p l : Addr} {u : Int × Int} {zs : Zs} {Q : VK} (hp : H p = some (prT u)) (hl : H l = some (.lst (zr zs))) (ho : PO H zs) (q : Q (.bl (if neg then !decide (u ∈ zp zs) else decide (u ∈ zp zs))) H) : rInP K neg (.ref p) (.ref l) H Q :=
  ⟨p, l, u, zs.map (·.1), zp zs, rfl, rfl, SqT.of hp, SqL.of (by rw [← zr_refs]; exact hl), by rw [List.length_map, zp_len], fun i hi => by
    rw [zp_len] at hi
    rw [getD_fst hi, getD_zp hi]
    exact SqT.of (ho _ (List.getElem_mem hi)), q⟩
theorem perm_lift {H : Hp} {zs : Zs} (ho : PO H zs) {as : List Addr} (h : as.Perm (zs.map (·.1))) : ∃ zs' : Zs, zs'.Perm zs ∧ as = zs'.map (·.1) := by
  classical
  let f : Addr → Int × Int := fun a => match H a with
    | some (.tup [.int x, .int y]) => (x, y)
    | _ => (0, 0)
  have e : (zs.map (·.1)).map (fun a => (a, f a)) = zs := by
    rw [List.map_map]
    conv => rhs; rw [← List.map_id zs]
    refine List.map_congr_left fun z hz => ?_
    have := ho z hz
    show (z.1, f z.1) = z
    have e2 : f z.1 = z.2 := by
      show (match H z.1 with | some (.tup [.int x, .int y]) => (x, y) | _ => (0, 0)) = z.2
      rw [this]
    rw [e2]
  refine ⟨as.map fun a => (a, f a), ?_, ?_⟩
  · have := h.map (fun a => (a, f a))
    rw [e] at this
    exact this
  · rw [List.map_map]
    exact (List.map_id as).symm
theorem sort_of {K : PySem.W.Frag} {H : Hp} {l : Addr} {zs : Zs} {Q : VK} (hl : H l = some (.lst (zr zs))) (ho : PO H zs) (hz : zs.length ≤ 4096) (q : ∀ (D : Addr) (zs' : Zs), H D = none → zs'.Perm zs → Q (.ref D) (upd H D (.lst (zr zs')))) : rSortA K [.ref l] H Q := by
  refine ⟨l, zs.map (·.1), rfl, SqL.of (by rw [← zr_refs]; exact hl), fun a ha => ?_, by rw [List.length_map]; exact hz, fun D as' hD hp => ?_⟩
  · obtain ⟨z, hz, rfl⟩ := List.mem_map.mp ha
    exact ⟨_, _, SqT.of (ho z hz)⟩
  · obtain ⟨zs', h1, rfl⟩ := perm_lift ho hp
    rw [← zr_refs]
    exact q D zs' hD h1
/-! ### comprehensions that make pairs -/
theorem comp_mkR {lo : Int} {n : Nat} {D : Addr} {g : TG} {tt : TT} {te : TE} {fin : Hp → Prop} {σB : St} {H0 : Hp} (F : Nat → Int × Int) (shape : St → Prop) (hD : H0 D = none) (hn : n ≤ 100000) (h0 : shape σB)
    (hs : ∀ i σ H (R : V → St → Hp → Prop) (Kf : St → Hp → Prop), i < n → shape σ → Same H0 H → (∀ σ2 p, shape σ2 → H p = none → R (.ref p) σ2 (upd H p (prT (F i)))) → g (.int (lo + i)) σ H fun σ2 H2 => tt σ2 H2 fun b H3 => if b = true then te σ2 H3 fun v H4 => R v σ2 H4 else Kf σ2 H3)
    (hd : ∀ zs H, Same H0 H → H D = some (.lst (zr zs)) → PO H zs → zp zs = (List.range n).map F → fin H) : CompW (Itr lo n) g tt te D fin σB (upd H0 D (.lst [])) := by
  refine comp_range (fun i ys σ H => shape σ ∧ Same H0 H ∧ H D = some (.lst ys) ∧ ∃ zs : Zs, ys = zr zs ∧ PO H zs ∧ zp zs = (List.range i).map F) ⟨h0, same_new hD, upd_same, [], rfl, PO.nil, rfl⟩ ?_ ?_
  · rintro i ys σ H Kt Kf hi ⟨sh, sm, hDl, zs, rfl, po, ep⟩ kt kf
    have hl : zs.length = i := by rw [← zp_len, ep, List.length_map, List.length_range]
    refine hs i σ H Kt Kf hi sh sm (fun σ2 p sh2 hp => ?_)
    · have nD : D ≠ p := ne_of_none hDl hp
      refine kt _ _ _ (by rw [upd_ne nD]; exact hDl) (by rw [zr_len, hl]; exact Nat.lt_of_lt_of_le hi (Nat.le_trans hn (by decide))) ⟨sh2, same_put (sm.trans (same_new hp)) hD, upd_same, zs ++ [(p, F i)], ?_, ?_, ?_⟩
      · rw [zr_append]; rfl
      · refine PO.putL (xs := zr zs) ?_ (by rw [upd_ne nD]; exact hDl)
        exact (po.putN hp).append (PO.one upd_same)
      · rw [zp_append, ep, List.range_succ, List.map_append]; rfl
  · rintro ys σ H ⟨_, sm, hDl, zs, rfl, po, ep⟩
    exact hd zs H sm hDl po ep
theorem comp_mkP {K : PySem.W.Frag} {a D : Addr} {zs0 : Zs} {g : TG} {tt : TT} {te : TE} {fin : Hp → Prop} {σB : St} {H0 : Hp} (F : Int × Int → Int × Int) (shape : St → Prop) (ha : H0 a = some (.lst (zr zs0))) (hp0 : PO H0 zs0) (hD : H0 D = none) (hn : zs0.length ≤ 100000) (h0 : shape σB)
    (hs : ∀ z σ H (R : V → St → Hp → Prop) (Kf : St → Hp → Prop), z ∈ zs0 → shape σ → H z.1 = some (prT z.2) → (∀ σ2 p, shape σ2 → H p = none → R (.ref p) σ2 (upd H p (prT (F z.2)))) → g (.ref z.1) σ H fun σ2 H2 => tt σ2 H2 fun b H3 => if b = true then te σ2 H3 fun v H4 => R v σ2 H4 else Kf σ2 H3)
    (hd : ∀ zs H, Same H0 H → H D = some (.lst (zr zs)) → PO H zs → zp zs = (zp zs0).map F → fin H) : CompW (Itl K a) g tt te D fin σB (upd H0 D (.lst [])) := by
  refine comp_list (xs := zr zs0) (fun i ys σ H => shape σ ∧ Same H0 H ∧ H D = some (.lst ys) ∧ ∃ zs : Zs, ys = zr zs ∧ PO H zs ∧ zp zs = ((zp zs0).take i).map F) ⟨h0, same_new hD, upd_same, [], rfl, PO.nil, rfl⟩ (fun i ys σ H _ z => SqL.of (z.2.1 _ _ ha)) ?_ ?_
  · rintro i x ys σ H Kt Kf hx ⟨sh, sm, hDl, zs, rfl, po, ep⟩ kt kf
    obtain ⟨z, hz, rfl⟩ := zr_get hx
    have hi : i < zs0.length := (List.getElem?_eq_some_iff.mp hz).1
    have hzm : z ∈ zs0 := List.mem_of_getElem? hz
    have hl : zs.length = i := by rw [← zp_len, ep, List.length_map, List.length_take, zp_len]; omega
    refine hs z σ H Kt Kf hzm sh (sm _ _ (hp0 z hzm)) (fun σ2 p sh2 hp => ?_)
    · have nD : D ≠ p := ne_of_none hDl hp
      refine kt _ _ _ (by rw [upd_ne nD]; exact hDl) (by rw [zr_len, hl]; exact Nat.lt_of_lt_of_le hi (Nat.le_trans hn (by decide))) ⟨sh2, same_put (sm.trans (same_new hp)) hD, upd_same, zs ++ [(p, F z.2)], ?_, ?_, ?_⟩
      · rw [zr_append]; rfl
      · refine PO.putL (xs := zr zs) ?_ (by rw [upd_ne nD]; exact hDl)
        exact (po.putN hp).append (PO.one upd_same)
      · have e2 : (zp zs0)[i]? = some z.2 := by unfold zp; rw [List.getElem?_map, hz]; rfl
        rw [zp_append, ep, List.take_add_one, e2, Option.toList_some, List.map_append]; rfl
  · rintro ys σ H ⟨_, sm, hDl, zs, rfl, po, ep⟩
    rw [zr_len, ← zp_len, List.take_length] at ep
    exact hd zs H sm hDl po ep
/-! ### ties and pairs -/
structure Ties (n : Int) (ps : List (Int × Int)) : Prop where
  nd : ps.Nodup
  rg : ∀ p ∈ ps, (0 ≤ p.1 ∧ p.1 < n) ∧ (0 ≤ p.2 ∧ p.2 < n)
  bal : ∀ h, (ps.map (·.1)).count h = (ps.map (·.2)).count h
structure Prs (n : Int) (ps : List (Int × Int)) : Prop where
  nd : ps.Nodup
  rg : ∀ p ∈ ps, 0 ≤ p.1 ∧ p.1 < p.2 ∧ p.2 < n
def sw (p : Int × Int) : Int × Int := (p.2, p.1)
theorem nodup_append' {α : Type} {a b : List α} (h1 : a.Nodup) (h2 : b.Nodup) (h3 : ∀ x ∈ a, x ∉ b) : (a ++ b).Nodup := List.nodup_append.mpr ⟨h1, h2, fun x hx y hy e => h3 x hx (e ▸ hy)⟩
theorem nodup_map' {α β : Type} {f : α → β} {a : List α} (h : a.Nodup) (hf : ∀ x ∈ a, ∀ y ∈ a, f x = f y → x = y) : (a.map f).Nodup := by
  induction a with
  | nil => exact List.nodup_nil
  | cons x xs ih =>
    obtain ⟨h1, h2⟩ := List.nodup_cons.mp h
    rw [List.map_cons]
    refine List.nodup_cons.mpr ⟨fun z => ?_, ih h2 fun y hy z hz => hf y (List.mem_cons_of_mem _ hy) z (List.mem_cons_of_mem _ hz)⟩
    obtain ⟨y, hy, e⟩ := List.mem_map.mp z
    have := hf y (List.mem_cons_of_mem _ hy) x List.mem_cons_self e
    exact h1 (this ▸ hy)
theorem Prs.both {n : Int} {ps : List (Int × Int)} (h : Prs n ps) : Ties n (ps ++ ps.map sw) := by
  refine ⟨nodup_append' h.nd (nodup_map' h.nd fun x _ y _ e => ?_) fun x hx hy => ?_, fun p hp => ?_, fun k => ?_⟩
  · have e1 : x.2 = y.2 := congrArg Prod.fst e
    have e2 : x.1 = y.1 := congrArg Prod.snd e
    exact Prod.ext e2 e1
  · obtain ⟨y, hy', e⟩ := List.mem_map.mp hy
    have a1 := h.rg x hx
    have a2 := h.rg y hy'
    subst e
    change 0 ≤ y.2 ∧ y.2 < y.1 ∧ y.1 < n at a1
    omega
  · rcases List.mem_append.mp hp with z | z
    · have := h.rg p z; omega
    · obtain ⟨y, hy', rfl⟩ := List.mem_map.mp z
      have := h.rg y hy'
      change (0 ≤ y.2 ∧ y.2 < n) ∧ (0 ≤ y.1 ∧ y.1 < n)
      omega
  · rw [List.map_append, List.map_append, List.count_append, List.count_append, List.map_map, List.map_map]
    show (ps.map (·.1)).count k + (ps.map (·.2)).count k = (ps.map (·.2)).count k + (ps.map (·.1)).count k
    omega
theorem Ties.perm {n : Int} {ps qs : List (Int × Int)} (h : Ties n ps) (p : qs.Perm ps) : Ties n qs :=
  ⟨p.nodup_iff.mpr h.nd, fun x hx => h.rg x (p.mem_iff.mp hx), fun k => by rw [(p.map _).count_eq, (p.map _).count_eq]; exact h.bal k⟩
theorem perm_zp {a b : Zs} (h : a.Perm b) : (zp a).Perm (zp b) := h.map _
theorem sub_countP {α : Type} [DecidableEq α] (p : α → Bool) : ∀ {a b : List α}, a.Nodup → (∀ x ∈ a, p x = true → x ∈ b) → a.countP p ≤ b.countP p
  | [], _, _, _ => Nat.zero_le _
  | x :: xs, b, h, hs => by
    obtain ⟨h1, h2⟩ := List.nodup_cons.mp h
    by_cases px : p x = true
    · have hx : x ∈ b := hs x List.mem_cons_self px
      have ih := sub_countP p (a := xs) (b := b.erase x) h2 fun y hy py => (List.mem_erase_of_ne (fun (e : y = x) => h1 (e ▸ hy))).mpr (hs y (List.mem_cons_of_mem _ hy) py)
      have e := (List.perm_cons_erase hx).countP_eq p
      rw [e, List.countP_cons_of_pos px, List.countP_cons_of_pos px]
      omega
    · rw [List.countP_cons_of_neg px]
      exact sub_countP p h2 fun y hy => hs y (List.mem_cons_of_mem _ hy)
theorem count_fst {ps : List (Int × Int)} {h : Int} : (ps.map (·.1)).count h = ps.countP fun p => p.1 == h := by
  rw [List.count_eq_countP, List.countP_map]; rfl
theorem count_snd {ps : List (Int × Int)} {h : Int} : (ps.map (·.2)).count h = ps.countP fun p => p.2 == h := by
  rw [List.count_eq_countP, List.countP_map]; rfl
end K51

set_option maxHeartbeats 1500000
namespace K51
open PySem L2
abbrev sSides : Stmt := top 7
abbrev IV (ns : List Int) : List V := ns.map V.int
theorem if_k {c : TT} {t u : TS} {D : Ends} {σ : St} {H : Hp} (Gy Gn : Hp → Prop) (hy : ∀ H, Gy H → t D σ H) (hn : ∀ H, Gn H → u D σ H)
    (ht : ∀ Y N : Hp → Prop, (∀ H, Gy H → Y H) → (∀ H, Gn H → N H) → c σ H fun b H1 => if b = true then Y H1 else N H1) : tIfS c t u D σ H := ht _ _ hy hn
def prod (ss : List Int) : Int := ss.foldl (· * ·) 1
theorem prod_snoc {ss : List Int} {s : Int} : prod (ss ++ [s]) = prod ss * s := by unfold prod; rw [List.foldl_append]; rfl
structure SdOk (ss : List Int) : Prop where
  five : ss.length ≤ 5
  two : ∀ s ∈ ss, 2 ≤ s ∧ s ≤ 32
  lim : ∀ i, 1 ≤ prod (ss.take i) ∧ prod (ss.take i) ≤ 32
theorem iv_snoc {ns : List Int} {n : Int} : IV ns ++ [.int n] = IV (ns ++ [n]) := by unfold IV; rw [List.map_append]; rfl
theorem take_snoc {α : Type} {xs : List α} {x : α} {i : Nat} : (xs ++ [x]).take i = xs.take i ∨ (xs ++ [x]).take i = xs ++ [x] := by
  by_cases h : i ≤ xs.length
  · exact .inl (List.take_append_of_le_length h)
  · exact .inr (List.take_of_length_le (by rw [List.length_append]; simp; omega))
theorem SdOk.snoc {ss : List Int} {s : Int} (h : SdOk ss) (h5 : ss.length < 5) (h2 : 2 ≤ s) (hl : s ≤ 32 / prod ss) : SdOk (ss ++ [s]) := by
  have l0 := h.lim ss.length
  rw [List.take_length] at l0
  have a1 : prod ss * s ≤ 32 := by
    have b1 : prod ss * s ≤ prod ss * (32 / prod ss) := Int.mul_le_mul_of_nonneg_left hl (by omega)
    have b2 := Int.mul_ediv_self_le (x := 32) (k := prod ss) (by omega)
    omega
  have a2 : 1 ≤ prod ss * s := by
    have : 1 * s ≤ prod ss * s := Int.mul_le_mul_of_nonneg_right l0.1 (by omega)
    omega
  have a3 : s ≤ 32 := by
    have : 1 * s ≤ prod ss * s := Int.mul_le_mul_of_nonneg_right l0.1 (by omega)
    omega
  refine ⟨by rw [List.length_append]; simp; omega, fun x hx => ?_, fun i => ?_⟩
  · rcases List.mem_append.mp hx with z | z
    · exact h.two x z
    · rw [List.mem_singleton.mp z]; exact ⟨h2, a3⟩
  · rcases take_snoc (xs := ss) (x := s) (i := i) with e | e
    · rw [e]; exact h.lim i
    · rw [e, prod_snoc]; exact ⟨a2, a1⟩
section
variable {P : Program} {w : World} {K : PySem.W.Frag} {mg : Str → Option Value} {base : Heap}
theorem scSides : FnScope ["_law_pot_here", "_law_sides_here", "_law_area", "_law_k"] ["_law_pot_here"] (defScope sSides) := ⟨rfl, rfl, rfl, by decide +kernel, rfl, by decide +kernel, by decide +kernel⟩
def spSides : Sp := fun vs H Q _ => ∃ (p : Addr), vs = [.ref p] ∧ PotAt H p ∧ ∀ (r : Addr) (ss : List Int) (H' : Hp), SameE p H H' → PotAt H' p → H r = none → H' r = some (.tup (IV ss)) → SdOk ss → Q (.ref r) H'
theorem ok_sides {f : Addr} {fd : FuncData} (F : Fun K "_law_sides" "_law_sides" sSides f fd) (B : Bl mg) (T : Cal P w K mg base CX0 1 "_law_take" ["_law_pot_here", "_law_many"] spTake) : FnOk P w K mg base CX0 2 f fd ["_law_pot_here"] spSides := by
  refine F.ok scSides (fun vs H Q E h => ?_) (fun cdv A outer s H vs Q E hr h => ?_)
  · obtain ⟨p, rfl, _⟩ := h
    rfl
  · obtain ⟨p, rfl, hp, q⟩ := h
    have hu : (A.deeper (PyProof.Rows.envOfC "_law_sides" (defScope sSides) s.heap.objs.size f cdv)).units + 2 < cLine := by have := hr.un; omega
    refine ⟨_, pss_cons (ps_set (i := 1) scSides.nd rfl (Or.inl rfl) (pe_lst pa_nil))
      (pss_cons (ps_set (i := 2) scSides.nd rfl (Or.inl rfl) pe_int)
      (pss_cons (ps_for PassesOwn.never rfl (pi_range1 rfl B.range (pa_cons pe_int pa_nil)) (pg_name (i := 3) scSides.nd rfl (Or.inl rfl))
        (pss_one (ps_if (PW.pt (pw_and (pt_cmpR op_le (pv 2) pe_int (nomark _)) (pw_and1 (PW.pt (pw_or (pt_cmpR (op_eqL (e := eqV) hu) (pv 1) (pe_lst pa_nil) (nomark _)) (pw_or1 (pt_cmpR op_gt (pe_cal T hr pass0 (pa_cons (pv 0) (pa_cons pe_int pa_nil))) pe_int (nomark _))))))))
          (pss_cons (ps_expr (pe_bm PySem.F.plainAttrs_list PySem.F.slot_list_append PySem.F.type_list_append mt_append (pv 1) (pa_cons (pe_op op_add pe_int (pe_cal T hr pass0 (pa_cons (pv 0) (pa_cons (pe_callB (call_min2 rfl) (by rfl) B.min PyProof.Rows.boot_min (pa_cons pe_int (pa_cons (pe_op op_sub (pe_op op_fdiv pe_int (pv 2)) pe_int) pa_nil))) pa_nil)))) pa_nil)))
          (pss_one (ps_set (i := 2) scSides.nd rfl (Or.inl rfl) (pe_op op_mul (pv 2) (pe_ix ix_list (pv 1) (pe_un un_neg pe_int) (fun _ _ => rfl))))))
          pss_nil)))
      (pss_one (ps_ret (pe_callTy call_tuple_of (by rfl) B.tup PyProof.Rows.boot_tuple (pa_cons (pv 1) pa_nil)))))), ?_⟩
    refine ⟨by show 0 ≤ sizeLine; decide, fun D hD => ?_⟩
    have nDp : D ≠ p := hp.ne hD
    refine ⟨_, rfl, by decide, by decide, for_range (lo := 0) (n := 5) (fun i σ H2 => (∃ v ss, σ = [some (.ref p), some (.ref D), some (.int (prod ss)), v] ∧ H2 D = some (.lst (IV ss)) ∧ SdOk ss ∧ ss.length ≤ i) ∧ SameE p H H2 ∧ PotAt H2 p) ?_ ?_ ?_⟩
    · exact ⟨⟨_, [], rfl, upd_same, ⟨by decide, fun s hs => (nomatch hs), fun i => by rw [List.take_nil]; decide⟩, by decide⟩, SameE.of (same_new hD), hp.same (same_new hD)⟩
    · rintro i σ H2 hi ⟨⟨v, ss, rfl, hD2, sd, sl⟩, se, po⟩
      have l0 := sd.lim ss.length
      rw [List.take_length] at l0
      refine if_k (fun Hc => SameE p H Hc ∧ PotAt Hc p ∧ Hc D = some (.lst (IV ss)) ∧ prod ss ≤ 16) (fun Hc => SameE p H Hc ∧ PotAt Hc p ∧ Hc D = some (.lst (IV ss))) ?_ ?_ ?_
      · rintro H3 ⟨se3, po3, hD3, h16⟩
        have d1 : 2 ≤ 32 / prod ss := by
          rw [Int.le_ediv_iff_mul_le (by omega)]; omega
        refine ⟨_, rfl, .inl ⟨rfl, _, SqL.of hD3⟩, _, rfl, _, rfl, _, _, rfl, rfl, ⟨by omega, by omega⟩, _, _, rfl, rfl, _, _, rfl, p, _, rfl, ?_, ?_, po3, fun d H4 d0 d1' se4 po4 => ?_⟩
        · show 0 < (if (32 / prod ss - 1 : Int) < 7 then (32 / prod ss - 1 : Int) else 7); split <;> omega
        · show (if (32 / prod ss - 1 : Int) < 7 then (32 / prod ss - 1 : Int) else 7) < 1000000; split <;> omega
        have d2 : d < 32 / prod ss - 1 := by
          have : d < (if (32 / prod ss - 1 : Int) < 7 then (32 / prod ss - 1 : Int) else 7) := d1'
          split at this <;> omega
        have hD4 := se4 _ _ hD3 nDp
        refine ⟨_, _, rfl, rfl, D, _, _, rfl, rfl, hD4, by rw [List.length_map]; exact Nat.lt_of_le_of_lt sd.five (by decide), ?_⟩
        refine ⟨_, rfl, _, rfl, _, rfl, D, _, _, _, rfl, rfl, SqL.of upd_same, atI_last _ _, _, _, rfl, rfl, .inl ⟨by omega, by omega⟩, ?_⟩
        refine ⟨⟨_, ss ++ [2 + d], by rw [prod_snoc]; rfl, by rw [upd_same, iv_snoc], sd.snoc (by omega) (by omega) (by omega), by rw [List.length_append]; simp; omega⟩, sameE_put (se3.trans se4) hD, po4.put nDp.symm⟩
      · rintro H3 ⟨se3, po3, hD3⟩
        exact ⟨⟨_, ss, rfl, hD3, sd, by omega⟩, se3, po3⟩
      · intro Y N y n
        refine ⟨_, rfl, _, _, rfl, rfl, _, rfl, ?_⟩
        refine ite2 (fun e => ?_) (fun e => ite_f (n _ ⟨se, po, hD2⟩))
        have h16 : prod ss ≤ 16 := of_decide_eq_true e
        refine ⟨_, rfl, by show 0 ≤ sizeLine; decide, fun L0 hL0 => ⟨D, L0, _, _, rfl, rfl, SqL.of (same_new hL0 _ _ hD2), SqL.of upd_same, fun i _ hi => absurd hi (by simp), _, rfl, ?_⟩⟩
        have se3 : SameE p H (upd H2 L0 (.lst [])) := se.trans (SameE.of (same_new hL0))
        have po3 : PotAt (upd H2 L0 (.lst [])) p := po.same (same_new hL0)
        have hD3 : (upd H2 L0 (.lst [])) D = some (.lst (IV ss)) := same_new hL0 _ _ hD2
        revert se3 po3 hD3
        generalize upd H2 L0 (.lst []) = H3
        intro se3 po3 hD3
        refine ite2 (fun e => ite_t (y _ ⟨se3, po3, hD3, h16⟩)) (fun e => ?_)
        refine ⟨_, rfl, p, _, rfl, by decide, by decide, po3, fun d H4 d0 d1' se4 po4 => ⟨_, _, rfl, rfl, _, rfl, ?_⟩⟩
        exact ite2 (fun e => y _ ⟨se3.trans se4, po4, se4 _ _ hD3 nDp, h16⟩) (fun e => n _ ⟨se3.trans se4, po4, se4 _ _ hD3 nDp⟩)
    · rintro σ H2 ⟨⟨v, ss, rfl, hD2, sd, sl⟩, se, po⟩
      refine ⟨_, rfl, D, _, rfl, .inl ⟨SqL.of hD2, fun r hr' => ?_⟩⟩
      exact q r ss _ (se.trans (SameE.of (same_new hr'))) (po.same (same_new hr')) (se.free po.full hr') upd_same sd
end
end K51

set_option maxHeartbeats 1500000
namespace K51
open PySem L2
abbrev sBox : Stmt := top 8
theorem nbOOMK : (["_law_one", "_law_other", "_law_many", "_law_k"] : List Str).Nodup := by decide +kernel
theorem nbHM : (["_law_house", "_law_many"] : List Str).Nodup := by decide +kernel
/-- layers of a box, so far: below m * k, each tie within its layer -/
structure Lay (m q : Int) (ps : List (Int × Int)) : Prop where
  nd : ps.Nodup
  rg : ∀ p ∈ ps, 0 ≤ p.1 ∧ p.1 < p.2 ∧ p.2 < q ∧ p.2 - p.1 < m
theorem Lay.add {m q : Int} {ps ps0 : List (Int × Int)} (h : Lay m q ps) (h0 : Prs m ps0) (q0 : 0 ≤ q) : Lay m (q + m) (ps ++ ps0.map fun p => (p.1 + q, p.2 + q)) := by
  refine ⟨nodup_append' h.nd (nodup_map' h0.nd fun x _ y _ e => ?_) fun x hx hy => ?_, fun p hp => ?_⟩
  · have e1 : x.1 + q = y.1 + q := congrArg Prod.fst e
    have e2 : x.2 + q = y.2 + q := congrArg Prod.snd e
    exact Prod.ext (by omega) (by omega)
  · obtain ⟨y, hy', rfl⟩ := List.mem_map.mp hy
    have a1 := h.rg _ hx
    have a2 := h0.rg y hy'
    dsimp only at a1
    omega
  · rcases List.mem_append.mp hp with z | z
    · have := h.rg p z
      by_cases hm : 0 ≤ m
      · omega
      · omega
    · obtain ⟨y, hy', rfl⟩ := List.mem_map.mp z
      have a2 := h0.rg y hy'
      dsimp only
      omega
theorem Lay.all {m q : Int} {n : Nat} {ps : List (Int × Int)} (h : Lay m q ps) (m0 : 0 < m) (hn : (n : Int) + m = q) : Prs q (ps ++ (List.range n).map fun (h : Nat) => ((h : Int), (h : Int) + m)) := by
  refine ⟨nodup_append' h.nd (nodup_map' List.nodup_range fun x _ y _ e => ?_) fun x hx hy => ?_, fun p hp => ?_⟩
  · have e1 : (x : Int) = y := congrArg Prod.fst e
    omega
  · obtain ⟨y, hy', rfl⟩ := List.mem_map.mp hy
    have a1 := h.rg _ hx
    dsimp only at a1
    omega
  · rcases List.mem_append.mp hp with z | z
    · have := h.rg p z; omega
    · obtain ⟨y, hy', rfl⟩ := List.mem_map.mp z
      have := List.mem_range.mp hy'
      dsimp only
      omega
section
variable {P : Program} {w : World} {K : PySem.W.Frag} {mg : Str → Option Value} {base : Heap}
theorem scBox : FnScope ["_law_sides_here", "_law_many", "_law_pairs", "_law_side", "_law_layers", "_law_k"] ["_law_sides_here"] (defScope sBox) := ⟨rfl, rfl, rfl, by decide +kernel, rfl, by decide +kernel, by decide +kernel⟩
def spBox : Sp := fun vs H Q _ => ∃ (a : Addr) (ss : List Int), vs = [.ref a] ∧ H a = some (.tup (IV ss)) ∧ SdOk ss ∧ ∀ (r L : Addr) (n : Int) (zs : Zs) (H' : Hp), Same H H' → H' r = some (.tup [.int n, .ref L]) → H' L = some (.lst (zr zs)) → H L = none → PO H' zs → Prs n (zp zs) → zs.length ≤ 160 → 1 ≤ n → n ≤ 32 → Q (.ref r) H'
theorem ok_box {f : Addr} {fd : FuncData} (F : Fun K "_law_box_pairs" "_law_box_pairs" sBox f fd) (B : Bl mg) : FnOk P w K mg base CX0 1 f fd ["_law_sides_here"] spBox := by
  refine F.ok scBox (fun vs H Q E h => ?_) (fun cdv A outer s H vs Q E hr h => ?_)
  · obtain ⟨a, ss, rfl, _⟩ := h
    rfl
  · obtain ⟨a, ss, rfl, ha, sd, q⟩ := h
    refine' ⟨_, pss_cons (ps_set (i := 1) scBox.nd rfl (Or.inr rfl) pe_int)
      (pss_cons (ps_set (i := 2) scBox.nd rfl (Or.inl rfl) (pe_lst pa_nil))
      (pss_cons (ps_for PassesOwn.never rfl (pi_tup (pv 0)) (pg_name (i := 3) scBox.nd rfl (Or.inl rfl))
        (pss_cons (ps_set (i := 4) scBox.nd rfl (Or.inl rfl) (pe_lst pa_nil))
        (pss_cons (ps_for PassesOwn.never rfl (pi_range1 rfl B.range (pa_cons (pv 3) pa_nil)) (pg_name (i := 5) scBox.nd rfl (Or.inr rfl))
          (pss_one (ps_set (i := 4) scBox.nd rfl (Or.inl rfl) (pe_op op_cat (pv 4) ?c1))))
        (pss_cons (ps_set (i := 2) scBox.nd rfl (Or.inl rfl) (pe_op op_cat (pv 4) ?c2))
        (pss_one (ps_set (i := 1) scBox.nd rfl (Or.inr rfl) (pe_op op_mul (pv 1) (pv 3))))))))
      (pss_one (ps_ret (pe_tup (pa_cons (pv 1) (pa_cons (pv 2) pa_nil))))))), ?_⟩
    case c1 =>
      refine' pe_comp (g := gTup K 2 (gCons (gName 0) (gCons (gName 1) gNil))) (te := tTup (tCons (tOp (rI0 fun i j => .int (i + j)) (tVar 0) (tOp (rI CMul fun i j => .int (i * j)) (tVar 2) (tVar 3))) (tCons (tOp (rI0 fun i j => .int (i + j)) (tVar 1) (tOp (rI CMul fun i j => .int (i * j)) (tVar 2) (tVar 3))) tNil))) (NB := ["_law_one", "_law_other", "_law_many", "_law_k"]) (src := [none, none, some 1, some 5]) (blk_of (by kernel_rfl)) rfl
        (pi_list (pv 2)) ?g ?t ?e
      case g => exact fun cl C s₃ H₃ fp => pg_tup (n := 2) rfl (pgs_cons (pg_name (i := 0) nbOOMK rfl (Or.inl rfl) (Or.inr rfl)) (pgs_cons (pg_name (i := 1) nbOOMK rfl (Or.inl rfl) (Or.inr rfl)) pgs_nil))
      case t => exact fun cl C s₃ H₃ fp => pts_nil
      case e => exact fun cl C s₃ H₃ fp => pe_tup (pa_cons (pe_op op_add (pv 0) (pe_op op_mul (pv 2) (pv 3))) (pa_cons (pe_op op_add (pv 1) (pe_op op_mul (pv 2) (pv 3))) pa_nil))
    case c2 =>
      refine' pe_comp (g := gName 0) (te := tTup (tCons (tVar 0) (tCons (tOp (rI0 fun i j => .int (i + j)) (tVar 0) (tVar 1)) tNil))) (NB := ["_law_house", "_law_many"]) (src := [none, some 1]) (blk_of (by kernel_rfl)) rfl
        (pi_range1 rfl B.range (pa_cons (pe_op op_mul (pv 1) (pe_op op_sub (pv 3) pe_int)) pa_nil)) ?g ?t ?e
      case g => exact fun cl C s₃ H₃ fp => pg_name (i := 0) nbHM rfl (Or.inl rfl) (Or.inr rfl)
      case t => exact fun cl C s₃ H₃ fp => pts_nil
      case e => exact fun cl C s₃ H₃ fp => pe_tup (pa_cons (pv 0) (pa_cons (pe_op op_add (pv 0) (pv 1)) pa_nil))
    refine ⟨by show 0 ≤ sizeLine; decide, fun D hD => ?_⟩
    refine ⟨_, rfl, a, rfl, ⟨_, SqT.of (by rw [upd_ne (ne_of_none ha hD)]; exact ha)⟩, for_tup (K := K) (a := a) (xs := IV ss) (fun i σ H2 => (∃ L v3 v4 v5 zs, σ = [some (.ref a), some (.int (prod (ss.take i))), some (.ref L), v3, v4, v5] ∧ H2 L = some (.lst (zr zs)) ∧ H L = none ∧ PO H2 zs ∧ Prs (prod (ss.take i)) (zp zs) ∧ (zs.length : Int) ≤ i * prod (ss.take i)) ∧ Same H H2)
      ⟨⟨D, _, _, _, [], rfl, upd_same, hD, PO.nil, ⟨List.nodup_nil, fun p hp => (nomatch hp)⟩, by simp⟩, same_new hD⟩ (fun i σ H2 _ z => SqT.of (z.2 _ _ ha)) ?_ ?_⟩
    · rintro i x σ H2 hx ⟨⟨L, v3, v4, v5, zs, rfl, hL, hLn, po, pr, zl⟩, sm⟩
      obtain ⟨sd', hs', rfl⟩ : ∃ s, ss[i]? = some s ∧ x = .int s := by
        rw [List.getElem?_map] at hx
        cases e : ss[i]? with
        | none => rw [e] at hx; cases hx
        | some s => rw [e] at hx; exact ⟨s, rfl, (Option.some.inj hx).symm⟩
      have hi : i < ss.length := (List.getElem?_eq_some_iff.mp hs').1
      have hs2 := sd.two sd' (List.mem_of_getElem? hs')
      have lim := sd.lim i
      have lim1 := sd.lim (i + 1)
      have ep : prod (ss.take (i + 1)) = prod (ss.take i) * sd' := by rw [List.take_add_one, hs', Option.toList_some, prod_snoc]
      rw [ep] at lim1
      rw [ep]
      have h5 := sd.five
      generalize hm : prod (ss.take i) = m at *
      have zl2 : zs.length ≤ 160 := by
        have : (i : Int) * m ≤ 5 * 32 := by
          have a1 : (i : Int) * m ≤ i * 32 := Int.mul_le_mul_of_nonneg_left lim.2 (by omega)
          omega
        omega
      refine ⟨by show 0 ≤ sizeLine; decide, fun D1 hD1 => ?_⟩
      have hLD : L ≠ D1 := ne_of_none hL hD1
      refine ⟨_, rfl, sd', rfl, by omega, by omega, for_range (lo := 0) (n := sd'.toNat) (fun k σ H3 => (∃ L1 v5 zs1, σ = [some (.ref a), some (.int m), some (.ref L), some (.int sd'), some (.ref L1), v5] ∧ H3 L1 = some (.lst (zr zs1)) ∧ H2 L1 = none ∧ PO H3 zs1 ∧ Lay m (m * k) (zp zs1) ∧ zs1.length = k * zs.length) ∧ Same H2 H3)
        ⟨⟨D1, _, [], rfl, upd_same, hD1, PO.nil, ⟨List.nodup_nil, fun p hp => (nomatch hp)⟩, by simp⟩, same_new hD1⟩ ?_ ?_⟩
      · rintro k σ H3 hk ⟨⟨L1, v5', zs1, rfl, hL1, hL1n, po1, ly, zl1⟩, sm3⟩
        rw [Int.zero_add]
        have k32 : k < 32 := by omega
        have zl1' : zs1.length ≤ 32 * 160 := by rw [zl1]; exact Nat.mul_le_mul (by omega) zl2
        refine ⟨_, rfl, _, rfl, L, rfl, ⟨_, SqL.of (sm3 _ _ hL)⟩, fun D2 hD2 => ?_⟩
        refine comp_mkP (K := K) (zs0 := zs) (fun p => (p.1 + m * k, p.2 + m * k)) (fun σ => ∃ u v, σ = [u, v, some (.int m), some (.int k)]) (sm3 _ _ hL) (po.same sm3) hD2 (by omega) ⟨_, _, rfl⟩ ?_ ?_
        · rintro z σ H4 R Kf hz ⟨u, v, rfl⟩ hz4 kt
          refine ⟨_, _, rfl, SqT.of hz4, rfl, _, _, rfl, _, _, rfl, rfl, ?_⟩
          exact ⟨_, rfl, _, rfl, _, rfl, _, _, rfl, rfl, .inl ⟨by omega, by omega⟩, _, _, rfl, rfl, _, rfl, _, rfl, _, rfl, _, _, rfl, rfl, .inl ⟨by omega, by omega⟩, _, _, rfl, rfl, by show 2 ≤ sizeLine; decide, fun p hp => kt _ p ⟨_, _, rfl⟩ hp⟩
        · rintro zs2 H4 sm4 hD4 po4 ez
          have hl2 : zs2.length = zs.length := by rw [← zp_len, ez, List.length_map, zp_len]
          refine ⟨L1, D2, _, _, rfl, rfl, sm4 _ _ hL1, hD4, by rw [zr_len, zr_len]; exact Nat.le_trans (show _ ≤ 32 * 160 + 160 by omega) (by decide), fun r hr' => ?_⟩
          refine ⟨⟨r, _, zs1 ++ zs2, rfl, by rw [upd_same, zr_append], (sm3.trans sm4).free hr', ((po1.same sm4).append po4).putN hr', ?_, ?_⟩, (sm3.trans sm4).trans (same_new hr')⟩
          · rw [zp_append, ez]
            have e : m * ((k + 1 : Nat) : Int) = m * k + m := by rw [Int.natCast_add, Int.mul_add]; simp
            rw [e]
            exact ly.add pr (Int.mul_nonneg (by omega) (by omega))
          · rw [List.length_append, zl1, hl2, Nat.succ_mul]
      · rintro σ H3 ⟨⟨L1, v5', zs1, rfl, hL1, hL1n, po1, ly, zl1⟩, sm3⟩
        have es : (sd'.toNat : Int) = sd' := by omega
        have em : m * (sd' - 1) + m = m * sd' := by rw [Int.mul_sub]; omega
        have e0 : 0 ≤ m * (sd' - 1) := Int.mul_nonneg (by omega) (by omega)
        rw [es] at ly
        refine ⟨_, rfl, _, rfl, _, rfl, _, _, rfl, rfl, _, _, rfl, rfl, .inl ⟨by omega, by omega⟩, _, rfl, by omega, by omega, fun D2 hD2 => ?_⟩
        refine comp_mkR (lo := 0) (fun h => ((h : Int), (h : Int) + m)) (fun σ => ∃ u, σ = [u, some (.int m)]) hD2 (by omega) ⟨_, rfl⟩ ?_ ?_
        · rintro j σ H4 R Kf hj ⟨u, rfl⟩ sm4 kt
          rw [Int.zero_add]
          exact ⟨_, rfl, _, rfl, _, rfl, _, _, rfl, rfl, by show 2 ≤ sizeLine; decide, fun p hp => kt _ p ⟨_, rfl⟩ hp⟩
        · rintro zs2 H4 sm4 hD4 po4 ez
          have hl2 : zs2.length = (m * (sd' - 1)).toNat := by rw [← zp_len, ez, List.length_map, List.length_range]
          have zl1' : zs1.length ≤ 32 * 160 := by rw [zl1]; exact Nat.mul_le_mul (by omega) zl2
          refine ⟨L1, D2, _, _, rfl, rfl, sm4 _ _ hL1, hD4, by rw [zr_len, zr_len]; exact Nat.le_trans (show _ ≤ 32 * 160 + 160 by omega) (by decide), fun r hr' => ?_⟩
          refine ⟨_, rfl, _, rfl, _, _, rfl, rfl, .inl ⟨by omega, by omega⟩, ?_⟩
          refine ⟨⟨r, _, _, _, zs1 ++ zs2, rfl, by rw [upd_same, zr_append], ((sm.trans sm3).trans sm4).free hr', ((po1.same sm4).append po4).putN hr', ?_, ?_⟩, ((sm.trans sm3).trans sm4).trans (same_new hr')⟩
          · rw [zp_append, ez]
            exact ly.all (by omega) (by omega)
          · rw [List.length_append, zl1, hl2]
            have b1 : ((sd'.toNat * zs.length : Nat) : Int) ≤ i * (m * sd') := by
              rw [Int.natCast_mul, es]
              have b2 : sd' * (zs.length : Int) ≤ sd' * (i * m) := Int.mul_le_mul_of_nonneg_left zl (by omega)
              have b3 : sd' * (i * m) = i * (m * sd') := by rw [Int.mul_comm sd', Int.mul_assoc]
              omega
            have b4 : ((i + 1 : Nat) : Int) * (m * sd') = i * (m * sd') + m * sd' := by rw [Int.natCast_add, Int.add_mul]; simp
            rw [b4]
            omega
    · rintro σ H2 ⟨⟨L, v3, v4, v5, zs, rfl, hL, hLn, po, pr, zl⟩, sm⟩
      have lim := sd.lim (IV ss).length
      have h5 := sd.five
      have zl2 : zs.length ≤ 160 := by
        have a0 : (IV ss).length ≤ 5 := by rw [List.length_map]; exact h5
        have a1 : ((IV ss).length : Int) * prod (ss.take (IV ss).length) ≤ (IV ss).length * 32 := Int.mul_le_mul_of_nonneg_left lim.2 (by omega)
        omega
      refine ⟨_, rfl, _, rfl, by show 2 ≤ sizeLine; decide, fun r hr' => ?_⟩
      exact q r L _ zs _ (sm.trans (same_new hr')) upd_same (same_new hr' _ _ hL) hLn (po.putN hr') pr zl2 lim.1 lim.2
end
end K51

set_option maxHeartbeats 1500000
namespace K51
open PySem L2
abbrev sTree : Stmt := top 9
abbrev sMore : Stmt := top 10
theorem nbOT : (["_law_other", "_law_tied"] : List Str).Nodup := by decide +kernel
theorem nbP1 : (["_law_pair"] : List Str).Nodup := by decide +kernel
theorem iv_at {ns : List Int} {k : Nat} (h : k < ns.length) : atI (IV ns) (k : Int) = some (.int (ns.getD k 0)) := by
  refine atI_nat ?_
  rw [List.getElem?_map, List.getElem?_eq_getElem h, List.getD_eq_getElem?_getD, List.getElem?_eq_getElem h]
  rfl
theorem iv_flat {ns : List Int} : (IV ns).all flatV = true := by
  rw [List.all_eq_true]
  intro v hv
  obtain ⟨j, _, rfl⟩ := List.mem_map.mp hv
  rfl
theorem getD_mem {α : Type} {xs : List α} {d : α} {k : Nat} (h : k < xs.length) : xs.getD k d ∈ xs := by
  rw [List.getD_eq_getElem?_getD, List.getElem?_eq_getElem h]; exact List.getElem_mem h
theorem iv_set {ns : List Int} {k : Nat} {v : Int} : (IV ns).set k (.int v) = IV (ns.set k v) := by unfold IV; rw [List.map_set]
theorem getD_set {ns : List Int} {k j : Nat} {v : Int} : (ns.set k v).getD j 0 = if k = j ∧ j < ns.length then v else ns.getD j 0 := by
  rw [List.getD_eq_getElem?_getD, List.getD_eq_getElem?_getD, List.getElem?_set]
  by_cases e : k = j
  · subst e
    by_cases h : k < ns.length
    · rw [if_pos rfl, if_pos h, if_pos ⟨rfl, h⟩]; rfl
    · rw [if_pos rfl, if_neg h, if_neg (fun z => h z.2), List.getElem?_eq_none (by omega)]
  · rw [if_neg e, if_neg (fun z => e z.1)]
theorem PO.alls {H H' : Hp} {p : Addr} {zs : Zs} (h : PO H zs) (hp : PotAt H p) (s : SameE p H H') : PO H' zs := h.sameE s hp
section
variable {P : Program} {w : World} {K : PySem.W.Frag} {mg : Str → Option Value} {base : Heap}
theorem scTree : FnScope ["_law_pot_here", "_law_many", "_law_pairs", "_law_tied", "_law_house", "_law_some", "_law_other"] ["_law_pot_here", "_law_many"] (defScope sTree) := ⟨rfl, rfl, rfl, by decide +kernel, rfl, by decide +kernel, by decide +kernel⟩
def spTree : Sp := fun vs H Q _ => ∃ (p : Addr) (n : Int), vs = [.ref p, .int n] ∧ PotAt H p ∧ 2 ≤ n ∧ n ≤ 32 ∧ ∀ (L : Addr) (zs : Zs) (H' : Hp), SameE p H H' → PotAt H' p → H L = none → H' L = some (.lst (zr zs)) → PO H' zs → Prs n (zp zs) → zs.length ≤ 32 → Q (.ref L) H'
theorem ok_tree {f : Addr} {fd : FuncData} (F : Fun K "_law_tree_pairs" "_law_tree_pairs" sTree f fd) (B : Bl mg) (T : Cal P w K mg base CX0 1 "_law_take" ["_law_pot_here", "_law_many"] spTake) : FnOk P w K mg base CX0 2 f fd ["_law_pot_here", "_law_many"] spTree := by
  refine F.ok scTree (fun vs H Q E h => ?_) (fun cdv A outer s H vs Q E hr h => ?_)
  · obtain ⟨p, n, rfl, _⟩ := h
    rfl
  · obtain ⟨p, n, rfl, hp, n2, n32, q⟩ := h
    refine' ⟨_, pss_cons (ps_set (i := 2) scTree.nd rfl (Or.inl rfl) (pe_lst pa_nil))
      (pss_cons (ps_set (i := 3) scTree.nd rfl (Or.inr rfl) (pe_op op_rep (pe_lst (pa_cons pe_int pa_nil)) (pv 1)))
      (pss_cons (ps_for PassesOwn.never rfl (pi_range2 rfl B.range (pa_cons pe_int (pa_cons (pv 1) pa_nil))) (pg_name (i := 4) scTree.nd rfl (Or.inl rfl))
        (pss_cons (ps_setComp (i := 5) (g := gName 0) (tt := tTest (tOp (rI0 fun i j => .bl (decide (i < j))) (tOp (rIxL K) (tVar 1) (tVar 0)) (tC (.int 7)))) (te := tVar 0) (NB := ["_law_other", "_law_tied"]) (src := [none, some 3]) (blk_of (by kernel_rfl)) rfl (pi_range1 rfl B.range (pa_cons (pv 4) pa_nil)) ?g ?t ?e scTree.nd rfl rfl rfl)
        (pss_cons (ps_set (i := 6) scTree.nd rfl (Or.inl rfl) (pe_ix ix_list (pv 5) (pe_cal T hr pass0 (pa_cons (pv 0) (pa_cons (pe_callB call_len_seq (by rfl) B.len PySem.boot_len (pa_cons (pv 5) pa_nil)) pa_nil))) (fun _ _ => rfl)))
        (pss_cons (ps_expr (pe_bm PySem.F.plainAttrs_list PySem.F.slot_list_append PySem.F.type_list_append mt_append (pv 2) (pa_cons (pe_tup (pa_cons (pv 6) (pa_cons (pv 4) pa_nil))) pa_nil)))
        (pss_cons (ps_asg (pe_op op_add (pe_ix ix_list (pv 3) (pv 6) (fun _ _ => rfl)) pe_int) (pg_sub (pv 3) (pv 6) set_list))
        (pss_one (ps_asg (pe_op op_add (pe_ix ix_list (pv 3) (pv 4) (fun _ _ => rfl)) pe_int) (pg_sub (pv 3) (pv 4) set_list))))))))
      (pss_one (ps_ret (pv 2))))), ?_⟩
    case g => exact fun cl C s₃ H₃ fp => pg_name (i := 0) nbOT rfl (Or.inl rfl) (Or.inr rfl)
    case t => exact fun cl C s₃ H₃ fp => pts_one (pt_cmpR op_lt (pe_ix ix_list (pv 1) (pv 0) (fun _ _ => rfl)) pe_int (nomark _))
    case e => exact fun cl C s₃ H₃ fp => pv 0
    refine ⟨by show 0 ≤ sizeLine; decide, fun D hD => ?_⟩
    refine ⟨by show 1 ≤ sizeLine; decide, fun D1 hD1 => ?_⟩
    refine ⟨_, rfl, D1, n, _, rfl, rfl, upd_same, by omega, by omega, ?_, fun D2 hD2 => ?_⟩
    · exact Nat.le_trans (show 1 * n.toNat ≤ 32 by omega) (by decide)
    have nDp : D ≠ p := hp.ne hD
    have hD10 : H D1 = none := (same_new hD).free hD1
    have hD20 : H D2 = none := ((same_new hD).trans (same_new hD1)).free hD2
    have nD2p : D2 ≠ p := hp.ne hD20
    have sm0 : Same H (upd (upd (upd H D (.lst [])) D1 (.lst [.int 0])) D2 (.lst (List.replicate n.toNat [V.int 0]).flatten)) := ((same_new hD).trans (same_new hD1)).trans (same_new hD2)
    have hDa : (upd (upd (upd H D (.lst [])) D1 (.lst [.int 0])) D2 (.lst (List.replicate n.toNat [V.int 0]).flatten)) D = some (.lst (zr [])) := same_new hD2 _ _ (same_new hD1 _ _ upd_same)
    have hDb : (upd (upd (upd H D (.lst [])) D1 (.lst [.int 0])) D2 (.lst (List.replicate n.toNat [V.int 0]).flatten)) D2 = some (.lst (IV (List.replicate n.toNat 0))) := by
      rw [upd_same]
      have : (List.replicate n.toNat [V.int 0]).flatten = IV (List.replicate n.toNat 0) := by
        unfold IV
        rw [List.map_replicate]
        generalize n.toNat = k
        induction k with
        | zero => rfl
        | succ k ih => rw [List.replicate_succ, List.flatten_cons, ih, List.replicate_succ]; rfl
      rw [this]
    have nDD : D ≠ D2 := by
      have : (upd (upd H D (.lst [])) D1 (.lst [.int 0])) D = some (.lst []) := same_new hD1 _ _ upd_same
      exact ne_of_none this hD2
    revert sm0 hDa hDb
    generalize upd (upd (upd H D (.lst [])) D1 (.lst [.int 0])) D2 (.lst (List.replicate n.toNat [V.int 0]).flatten) = H0
    intro sm0 hDa hDb
    refine ⟨_, rfl, 1, n, rfl, ⟨by omega, by omega, by omega, by omega⟩, for_range (lo := 1) (n := (n - 1).toNat) (fun i σ H2 => (∃ v4 v5 v6, σ = [some (.ref p), some (.int n), some (.ref D), some (.ref D2), v4, v5, v6]) ∧ (∃ zs, H2 D = some (.lst (zr zs)) ∧ PO H2 zs ∧ Prs (i + 1) (zp zs) ∧ zs.length = i) ∧ (∃ ts, H2 D2 = some (.lst (IV ts)) ∧ ts.length = n.toNat ∧ ts.getD i 0 ≤ 1 ∧ ∀ j, i < j → ts.getD j 0 = 0) ∧ SameE p H H2 ∧ PotAt H2 p) ?_ ?_ ?_⟩
    · refine ⟨⟨_, _, _, rfl⟩, ⟨[], hDa, PO.nil, ⟨List.nodup_nil, fun p hp => (nomatch hp)⟩, rfl⟩, ⟨_, hDb, List.length_replicate, ?_, fun j _ => ?_⟩, SameE.of sm0, hp.same sm0⟩
      · rw [List.getD_eq_getElem?_getD, List.getElem?_replicate]; split <;> decide
      · rw [List.getD_eq_getElem?_getD, List.getElem?_replicate]; split <;> rfl
    · rintro i σ H2 hi ⟨⟨v4, v5, v6, rfl⟩, ⟨zs, hz, po, pr, zl⟩, ⟨ts, ht, tl, t1, t0⟩, se, pot⟩
      refine ⟨_, rfl, _, rfl, by omega, by omega, fun C hC => ?_⟩
      have e1 : ((1 : Int) + (i : Int)).toNat = i + 1 := by omega
      rw [e1]
      refine comp_range (lo := 0) (n := i + 1) (fun c ys σ H3 => (∃ u, σ = [u, some (.ref D2)]) ∧ Same H2 H3 ∧ H3 C = some (.lst ys) ∧ ∃ js, ys = IV js ∧ js.length ≤ c ∧ (∀ x ∈ js, 0 ≤ x ∧ x < c) ∧ (c = i + 1 → js ≠ []))
        ⟨⟨_, rfl⟩, same_new hC, upd_same, [], rfl, Nat.le_refl _, fun x hx => (nomatch hx), fun z => absurd z (by omega)⟩ ?_ ?_
      · rintro c ys σ H3 Kt Kf hc ⟨⟨u, rfl⟩, sm3, hC3, js, rfl, jl, jr, jn⟩ kt kf
        rw [Int.zero_add]
        refine ⟨_, rfl, _, rfl, D2, _, _, _, rfl, rfl, SqL.of (sm3 _ _ ht), iv_at (by omega), _, _, rfl, rfl, _, rfl, ?_⟩
        refine ite2 (fun e => ?_) (fun e => ?_)
        · refine ⟨_, rfl, kt _ _ _ hC3 (by rw [List.length_map]; exact Nat.lt_of_le_of_lt jl (Nat.lt_of_lt_of_le (show c < 33 by omega) (by decide))) ⟨⟨_, rfl⟩, same_put sm3 hC, upd_same, js ++ [(c : Int)], iv_snoc, by rw [List.length_append]; simp; omega, fun x hx => ?_, fun _ => by simp⟩⟩
          rcases List.mem_append.mp hx with z | z
          · have := jr x z; omega
          · rw [List.mem_singleton.mp z]; omega
        · refine kf _ _ ⟨⟨_, rfl⟩, sm3, hC3, js, rfl, by omega, fun x hx => ?_, fun z => ?_⟩
          · have := jr x hx; omega
          · have : c = i := by omega
            subst this
            exact absurd (decide_eq_true (show ts.getD c 0 < 7 by omega)) e
      · rintro ys σ H3 ⟨_, sm3, hC3, js, rfl, jl, jr, jn⟩
        have jn' := jn rfl
        have j1 : 0 < js.length := List.length_pos_iff.mpr jn'
        have nCp : C ≠ p := pot.ne hC
        refine ⟨_, rfl, _, rfl, _, rfl, C, _, rfl, .inl (SqL.of hC3), p, _, rfl, by rw [List.length_map]; omega, by rw [List.length_map]; omega, pot.same sm3, fun d H4 d0 d1 se4 po4 => ?_⟩
        rw [List.length_map] at d1
        obtain ⟨dn, rfl⟩ : ∃ dn : Nat, (dn : Int) = d := ⟨d.toNat, by omega⟩
        have hdn : dn < js.length := by omega
        have hr' := jr _ (getD_mem (d := 0) hdn)
        refine ⟨C, _, _, _, rfl, rfl, SqL.of (se4 _ _ hC3 nCp), iv_at hdn, ?_⟩
        have hz4 : H4 D = some (.lst (zr zs)) := se4 _ _ (sm3 _ _ hz) nDp
        have ht4 : H4 D2 = some (.lst (IV ts)) := se4 _ _ (sm3 _ _ ht) nD2p
        have poz4 : PO H4 zs := (po.same sm3).sameE se4 (pot.same sm3)
        have se4' : SameE p H H4 := (se.trans (SameE.of sm3)).trans se4
        revert hr'
        generalize js.getD dn 0 = o
        intro hr'
        obtain ⟨on, rfl⟩ : ∃ on : Nat, (on : Int) = o := ⟨o.toNat, by omega⟩
        refine ⟨_, rfl, .inl ⟨rfl, _, SqL.of hz4⟩, _, rfl, _, rfl, by show 2 ≤ sizeLine; decide, fun t htn => ?_⟩
        have nDt : D ≠ t := ne_of_none hz4 htn
        have nD2t : D2 ≠ t := ne_of_none ht4 htn
        refine ⟨D, _, _, rfl, rfl, by rw [upd_ne nDt]; exact hz4, by rw [zr_len, zl]; exact Nat.lt_of_lt_of_le (show i < 33 by omega) (by decide), ?_⟩
        have hz5 : (upd (upd H4 t (prT ((on : Int), 1 + (i : Int)))) D (.lst (zr zs ++ [.ref t]))) D = some (.lst (zr (zs ++ [(t, ((on : Int), 1 + (i : Int)))]))) := by rw [upd_same, zr_append]; rfl
        have ht5 : (upd (upd H4 t (prT ((on : Int), 1 + (i : Int)))) D (.lst (zr zs ++ [.ref t]))) D2 = some (.lst (IV ts)) := by rw [upd_ne nDD.symm, upd_ne nD2t]; exact ht4
        have po5 : PO (upd (upd H4 t (prT ((on : Int), 1 + (i : Int)))) D (.lst (zr zs ++ [.ref t]))) (zs ++ [(t, ((on : Int), 1 + (i : Int)))]) := PO.putL (xs := zr zs) ((poz4.putN htn).append (PO.one upd_same)) (by rw [upd_ne nDt]; exact hz4)
        have se5 : SameE p H (upd (upd H4 t (prT ((on : Int), 1 + (i : Int)))) D (.lst (zr zs ++ [.ref t]))) := sameE_put (se4'.trans (SameE.of (same_new htn))) hD
        have pt5 : PotAt (upd (upd H4 t (prT ((on : Int), 1 + (i : Int)))) D (.lst (zr zs ++ [.ref t]))) p := (po4.same (same_new htn)).put nDp.symm
        change tSeq _ _ _ _ (upd (upd H4 t (prT ((on : Int), 1 + (i : Int)))) D (.lst (zr zs ++ [.ref t])))
        revert hz5 ht5 po5 se5 pt5
        generalize upd (upd H4 t (prT ((on : Int), 1 + (i : Int)))) D (.lst (zr zs ++ [.ref t])) = H5
        intro hz5 ht5 po5 se5 pt5
        have hon : on < ts.length := by omega
        refine ⟨_, rfl, _, rfl, D2, _, _, _, rfl, rfl, SqL.of ht5, iv_at hon, _, _, rfl, rfl, _, rfl, _, rfl, D2, _, _, on, rfl, rfl, ht5, ixN_nat (by rw [List.length_map]; exact hon), ?_⟩
        rw [iv_set]
        have hz6 : (upd H5 D2 (.lst (IV (ts.set on (ts.getD on 0 + 1))))) D = _ := (upd_ne nDD).trans hz5
        have ht6 : (upd H5 D2 (.lst (IV (ts.set on (ts.getD on 0 + 1))))) D2 = some (.lst (IV (ts.set on (ts.getD on 0 + 1)))) := upd_same
        have po6 := PO.putL (o := .lst (IV (ts.set on (ts.getD on 0 + 1)))) po5 ht5
        have se6 : SameE p H (upd H5 D2 (.lst (IV (ts.set on (ts.getD on 0 + 1))))) := sameE_put se5 hD20
        have pt6 : PotAt (upd H5 D2 (.lst (IV (ts.set on (ts.getD on 0 + 1))))) p := pt5.put nD2p.symm
        revert hz6 ht6 po6 se6 pt6
        generalize upd H5 D2 (.lst (IV (ts.set on (ts.getD on 0 + 1)))) = H6
        intro hz6 ht6 po6 se6 pt6
        have ei : (1 : Int) + (i : Int) = ((i + 1 : Nat) : Int) := by omega
        have hlt : i + 1 < (ts.set on (ts.getD on 0 + 1)).length := by rw [List.length_set]; omega
        refine ⟨_, rfl, _, rfl, D2, _, _, _, rfl, rfl, SqL.of ht6, by rw [ei]; exact iv_at hlt, _, _, rfl, rfl, _, rfl, _, rfl, D2, _, _, i + 1, rfl, rfl, ht6, by rw [ei]; exact ixN_nat (by rw [List.length_map]; exact hlt), ?_⟩
        rw [iv_set]
        refine ⟨⟨_, _, _, rfl⟩, ⟨_, (upd_ne nDD).trans hz6, po6.putL ht6, ⟨?_, ?_⟩, by rw [List.length_append, zl]; rfl⟩, ⟨_, upd_same, by rw [List.length_set, List.length_set]; exact tl, ?_, fun j hj => ?_⟩, sameE_put se6 hD20, pt6.put nD2p.symm⟩
        · rw [zp_append]
          refine nodup_append' pr.nd (List.nodup_cons.mpr ⟨(fun z => nomatch z), List.nodup_nil⟩) fun x hx hy => ?_
          have := pr.rg x hx
          have hy' : x = ((on : Int), 1 + (i : Int)) := List.mem_singleton.mp hy
          subst hy'
          dsimp only at this
          omega
        · intro x hx
          rw [zp_append] at hx
          rcases List.mem_append.mp hx with z | z
          · have := pr.rg x z; omega
          · have hy' : x = ((on : Int), 1 + (i : Int)) := List.mem_singleton.mp z
            subst hy'
            dsimp only
            omega
        · rw [getD_set, if_pos ⟨rfl, hlt⟩, getD_set, if_neg (by omega), t0 (i + 1) (by omega)]; decide
        · rw [getD_set, if_neg (by omega), getD_set, if_neg (by omega)]; exact t0 j (by omega)
    · rintro σ H2 ⟨⟨v4, v5, v6, rfl⟩, ⟨zs, hz, po, pr, zl⟩, _, se, pot⟩
      have en : (((n - 1).toNat : Nat) : Int) + 1 = n := by omega
      rw [en] at pr
      exact ⟨_, rfl, q D zs H2 se pot hD hz po pr (by omega)⟩
end
end K51

set_option maxHeartbeats 1500000
namespace K51
open PySem L2
theorem comp_intP {K : PySem.W.Frag} {a D : Addr} {zs0 : Zs} {g : TG} {tt : TT} {te : TE} {fin : Hp → Prop} {σB : St} {H0 : Hp} (F : Int × Int → Int) (shape : St → Prop) (ha : H0 a = some (.lst (zr zs0))) (hp0 : PO H0 zs0) (hD : H0 D = none) (hn : zs0.length ≤ 100000) (h0 : shape σB)
    (hs : ∀ z σ H (R : V → St → Hp → Prop) (Kf : St → Hp → Prop), z ∈ zs0 → shape σ → H z.1 = some (prT z.2) → (∀ σ2, shape σ2 → R (.int (F z.2)) σ2 H) → g (.ref z.1) σ H fun σ2 H2 => tt σ2 H2 fun b H3 => if b = true then te σ2 H3 fun v H4 => R v σ2 H4 else Kf σ2 H3)
    (hd : ∀ H, Same H0 H → H D = some (.lst (IV ((zp zs0).map F))) → fin H) : CompW (Itl K a) g tt te D fin σB (upd H0 D (.lst [])) := by
  refine comp_list (xs := zr zs0) (fun i ys σ H => shape σ ∧ Same H0 H ∧ H D = some (.lst ys) ∧ ys = IV (((zp zs0).take i).map F)) ⟨h0, same_new hD, upd_same, rfl⟩ (fun i ys σ H _ z => SqL.of (z.2.1 _ _ ha)) ?_ ?_
  · rintro i x ys σ H Kt Kf hx ⟨sh, sm, hDl, rfl⟩ kt kf
    obtain ⟨z, hz, rfl⟩ := zr_get hx
    have hi : i < zs0.length := (List.getElem?_eq_some_iff.mp hz).1
    have hzm : z ∈ zs0 := List.mem_of_getElem? hz
    refine hs z σ H Kt Kf hzm sh (sm _ _ (hp0 z hzm)) (fun σ2 sh2 => ?_)
    refine kt _ _ _ hDl (by rw [List.length_map, List.length_map, List.length_take, zp_len]; exact Nat.lt_of_lt_of_le (show _ < 100001 by omega) (by decide)) ⟨sh2, same_put sm hD, upd_same, ?_⟩
    have e2 : (zp zs0)[i]? = some z.2 := by unfold zp; rw [List.getElem?_map, hz]; rfl
    rw [iv_snoc, List.take_add_one, e2, Option.toList_some, List.map_append]; rfl
  · rintro ys σ H ⟨_, sm, hDl, rfl⟩
    rw [zr_len, ← zp_len, List.take_length] at hDl
    exact hd H sm hDl
theorem perm_two {a b : Int} {ns : List Int} (h : ns.Perm [a, b]) : ∃ x y, ns = [x, y] ∧ (x = a ∨ x = b) ∧ (y = a ∨ y = b) := by
  have hl := h.length_eq
  match ns, hl with
  | [x, y], _ =>
    have h1 := h.mem_iff.mp (show x ∈ [x, y] by simp)
    have h2 := h.mem_iff.mp (show y ∈ [x, y] by simp)
    simp at h1 h2
    exact ⟨x, y, rfl, h1, h2⟩
section
variable {P : Program} {w : World} {K : PySem.W.Frag} {mg : Str → Option Value} {base : Heap}
theorem scMore : FnScope ["_law_pot_here", "_law_many", "_law_pairs", "_law_found", "_law_k", "_law_one", "_law_other", "_law_tied"] ["_law_pot_here", "_law_many", "_law_pairs"] (defScope sMore) := ⟨rfl, rfl, rfl, by decide +kernel, rfl, by decide +kernel, by decide +kernel⟩
def spMore : Sp := fun vs H Q _ => ∃ (p l : Addr) (n : Int) (zs0 : Zs), vs = [.ref p, .int n, .ref l] ∧ PotAt H p ∧ H l = some (.lst (zr zs0)) ∧ PO H zs0 ∧ Prs n (zp zs0) ∧ zs0.length ≤ 32 ∧ 1 ≤ n ∧ n ≤ 32 ∧ ∀ (L : Addr) (zs : Zs) (H' : Hp), SameE p H H' → PotAt H' p → H L = none → H' L = some (.lst (zr zs)) → PO H' zs → Prs n (zp zs) → zs.length ≤ 48 → Q (.ref L) H'
theorem ok_more {f : Addr} {fd : FuncData} (F : Fun K "_law_more_pairs" "_law_more_pairs" sMore f fd) (B : Bl mg) (T : Cal P w K mg base CX0 1 "_law_take" ["_law_pot_here", "_law_many"] spTake) : FnOk P w K mg base CX0 2 f fd ["_law_pot_here", "_law_many", "_law_pairs"] spMore := by
  refine F.ok scMore (fun vs H Q E h => ?_) (fun cdv A outer s H vs Q E hr h => ?_)
  · obtain ⟨p, l, n, zs0, rfl, _⟩ := h
    rfl
  · obtain ⟨p, l, n, zs0, rfl, hp, hl, po0, pr0, zl0, n1, n32, q⟩ := h
    have hu : (A.deeper (PyProof.Rows.envOfC "_law_more_pairs" (defScope sMore) s.heap.objs.size f cdv)).units + 2 < cLine := by have := hr.un; omega
    refine' ⟨_, pss_cons (ps_set (i := 3) scMore.nd rfl (Or.inl rfl) (pe_callTy call_list_of (by rfl) B.lst PyProof.Rows.boot_list (pa_cons (pv 2) pa_nil)))
      (pss_cons (ps_for PassesOwn.never rfl (pi_range1 rfl B.range (pa_cons (pe_cal T hr pass0 (pa_cons (pv 0) (pa_cons pe_int pa_nil))) pa_nil)) (pg_name (i := 4) scMore.nd rfl (Or.inl rfl))
        (pss_cons (ps_asg (pe_callB call_sortI (by rfl) B.sorted PyProof.Rows.boot_sorted (pa_cons (pe_lst (pa_cons (pe_cal T hr pass0 (pa_cons (pv 0) (pa_cons (pv 1) pa_nil))) (pa_cons (pe_cal T hr pass0 (pa_cons (pv 0) (pa_cons (pv 1) pa_nil))) pa_nil))) pa_nil))
          (pg_tupL rfl (pgs_cons (pg_name (i := 5) scMore.nd rfl (Or.inl rfl)) (pgs_cons (pg_name (i := 6) scMore.nd rfl (Or.inl rfl)) pgs_nil))))
        (pss_cons (ps_set (i := 7) scMore.nd rfl (Or.inl rfl) (pe_op op_cat ?c1 ?c2))
        (pss_one (ps_if (PW.pt (pw_and (pt_cmpR op_lt (pv 5) (pv 6) (nomark _)) (pw_and (pt_cmpR (op_notInP hu) (pe_tup (pa_cons (pv 5) (pa_cons (pv 6) pa_nil))) (pv 3) (by rfl)) (pw_and1 (pt_cmpR op_lt (pe_callB (call_max2 rfl) (by rfl) B.max PyProof.Rows.boot_max (pa_cons (pe_bm PySem.F.plainAttrs_list PySem.F.slot_list_count PySem.F.type_list_count mt_count (pv 7) (pa_cons (pv 5) pa_nil)) (pa_cons (pe_bm PySem.F.plainAttrs_list PySem.F.slot_list_count PySem.F.type_list_count mt_count (pv 7) (pa_cons (pv 6) pa_nil)) pa_nil))) pe_int (nomark _))))))
          (pss_one (ps_expr (pe_bm PySem.F.plainAttrs_list PySem.F.slot_list_append PySem.F.type_list_append mt_append (pv 3) (pa_cons (pe_tup (pa_cons (pv 5) (pa_cons (pv 6) pa_nil))) pa_nil))))
          pss_nil)))))
      (pss_one (ps_ret (pv 3)))), ?_⟩
    case c1 =>
      refine' pe_comp (g := gName 0) (te := tOp (rIxT K) (tVar 0) (tC (.int 0))) (NB := ["_law_pair"]) (src := [none]) (blk_of (by kernel_rfl)) rfl (pi_list (pv 3)) ?g ?t ?e
      case g => exact fun cl C s₃ H₃ fp => pg_name (i := 0) nbP1 rfl (Or.inl rfl) (Or.inr rfl)
      case t => exact fun cl C s₃ H₃ fp => pts_nil
      case e => exact fun cl C s₃ H₃ fp => pe_ix ix_tup (pv 0) pe_int (fun _ _ => rfl)
    case c2 =>
      refine' pe_comp (g := gName 0) (te := tOp (rIxT K) (tVar 0) (tC (.int 1))) (NB := ["_law_pair"]) (src := [none]) (blk_of (by kernel_rfl)) rfl (pi_list (pv 3)) ?g ?t ?e
      case g => exact fun cl C s₃ H₃ fp => pg_name (i := 0) nbP1 rfl (Or.inl rfl) (Or.inr rfl)
      case t => exact fun cl C s₃ H₃ fp => pts_nil
      case e => exact fun cl C s₃ H₃ fp => pe_ix ix_tup (pv 0) pe_int (fun _ _ => rfl)
    refine ⟨_, rfl, l, _, rfl, .inl (SqL.of hl), fun D hD => ?_⟩
    have nDp : D ≠ p := hp.ne hD
    have po1 := po0.putN (o := .lst (zr zs0)) hD
    have hD1 : (upd H D (.lst (zr zs0))) D = some (.lst (zr zs0)) := upd_same
    have se1 : SameE p H (upd H D (.lst (zr zs0))) := SameE.of (same_new hD)
    have pt1 := hp.same (same_new (o := .lst (zr zs0)) hD)
    revert po1 hD1 se1 pt1
    generalize upd H D (.lst (zr zs0)) = H1
    intro po1 hD1 se1 pt1
    refine ⟨_, rfl, p, _, rfl, by decide, by decide, pt1, fun d H2 d0 d12 se2 pt2 => ?_⟩
    refine ⟨d, rfl, by omega, by omega, for_range (lo := 0) (n := d.toNat) (fun i σ Hc => (∃ v4 v5 v6 v7, σ = [some (.ref p), some (.int n), some (.ref l), some (.ref D), v4, v5, v6, v7]) ∧ (∃ zs, Hc D = some (.lst (zr zs)) ∧ PO Hc zs ∧ Prs n (zp zs) ∧ zs.length ≤ 32 + i) ∧ SameE p H Hc ∧ PotAt Hc p) ?_ ?_ ?_⟩
    · exact ⟨⟨_, _, _, _, rfl⟩, ⟨zs0, se2 _ _ hD1 nDp, po1.sameE se2 pt1, pr0, by omega⟩, se1.trans se2, pt2⟩
    · rintro i σ Hc hi ⟨⟨v4, v5, v6, v7, rfl⟩, ⟨zs, hz, po, pr, zl⟩, se, pt⟩
      refine ⟨_, rfl, _, rfl, p, _, rfl, by omega, by omega, pt, fun a Ha a0 a1 sea pta => ?_⟩
      refine ⟨_, rfl, _, rfl, p, _, rfl, by omega, by omega, pta, fun b Hb b0 b1 seb ptb => ?_⟩
      refine ⟨by show 2 ≤ sizeLine; decide, fun Lq hLq => ⟨Lq, [a, b], rfl, SqL.of upd_same, by show 2 < 64; decide, fun Ls ns' hLs pm => ?_⟩⟩
      obtain ⟨x, y, rfl, hx, hy⟩ := perm_two pm
      have seb' : SameE p Hc Hb := sea.trans seb
      have sm3 : Same Hb (upd (upd Hb Lq (.lst (IV [a, b]))) Ls (.lst (IV [x, y]))) := (same_new hLq).trans (same_new hLs)
      have hs3 : (upd (upd Hb Lq (.lst (IV [a, b]))) Ls (.lst (IV [x, y]))) Ls = some (.lst [.int x, .int y]) := upd_same
      refine ⟨Ls, .int x, .int y, rfl, SqL.of hs3, _, _, rfl, _, _, rfl, rfl, ?_⟩
      change tSeq _ _ _ _ (upd (upd Hb Lq (.lst (IV [a, b]))) Ls (.lst (IV [x, y])))
      revert sm3 hs3
      generalize upd (upd Hb Lq (.lst (IV [a, b]))) Ls (.lst (IV [x, y])) = H3
      intro sm3 hs3
      have hz3 : H3 D = some (.lst (zr zs)) := sm3 _ _ (seb' _ _ hz nDp)
      have po3 : PO H3 zs := (po.sameE seb' pt).same sm3
      have se3 : SameE p H H3 := (se.trans seb').trans (SameE.of sm3)
      have pt3 : PotAt H3 p := ptb.same sm3
      have x0 : 0 ≤ x ∧ x < n := by rcases hx with rfl | rfl <;> omega
      have y0 : 0 ≤ y ∧ y < n := by rcases hy with rfl | rfl <;> omega
      refine ⟨_, rfl, D, rfl, ⟨_, SqL.of hz3⟩, fun C1 hC1 => ?_⟩
      refine comp_intP (K := K) (zs0 := zs) (·.1) (fun σ => ∃ u, σ = [u]) hz3 po3 hC1 (by omega) ⟨_, rfl⟩ ?_ ?_
      · rintro z σ H4 R Kf hzm ⟨u, rfl⟩ hz4 kt
        exact ⟨_, rfl, z.1, _, _, _, rfl, rfl, SqT.of hz4, atI_nat (j := 0) rfl, kt _ ⟨_, rfl⟩⟩
      intro H4 sm4 hC14
      refine ⟨_, rfl, D, rfl, ⟨_, SqL.of (sm4 _ _ hz3)⟩, fun C2 hC2 => ?_⟩
      refine comp_intP (K := K) (zs0 := zs) (·.2) (fun σ => ∃ u, σ = [u]) (sm4 _ _ hz3) (po3.same sm4) hC2 (by omega) ⟨_, rfl⟩ ?_ ?_
      · rintro z σ H5 R Kf hzm ⟨u, rfl⟩ hz4 kt
        exact ⟨_, rfl, z.1, _, _, _, rfl, rfl, SqT.of hz4, atI_nat (j := 1) rfl, kt _ ⟨_, rfl⟩⟩
      intro H5 sm5 hC25
      refine ⟨C1, C2, _, _, rfl, rfl, sm5 _ _ hC14, hC25, by rw [List.length_map, List.length_map, List.length_map, List.length_map, zp_len]; exact Nat.le_trans (show _ ≤ 100 by omega) (by decide), fun Tl hTl => ?_⟩
      have et : IV ((zp zs).map (·.1)) ++ IV ((zp zs).map (·.2)) = IV ((zp zs).map (·.1) ++ (zp zs).map (·.2)) := List.map_append.symm
      rw [et]
      have hT : (upd H5 Tl (.lst (IV ((zp zs).map (·.1) ++ (zp zs).map (·.2))))) Tl = some (.lst (IV ((zp zs).map (·.1) ++ (zp zs).map (·.2)))) := upd_same
      have sm6 : Same H3 (upd H5 Tl (.lst (IV ((zp zs).map (·.1) ++ (zp zs).map (·.2))))) := (sm4.trans sm5).trans (same_new hTl)
      revert hT sm6
      generalize upd H5 Tl (.lst (IV ((zp zs).map (·.1) ++ (zp zs).map (·.2)))) = H6
      intro hT sm6
      dsimp only [gName]
      refine if_k (fun Hk => Same H6 Hk ∧ x < y ∧ (x, y) ∉ zp zs) (fun Hk => Same H6 Hk) ?_ ?_ ?_
      · rintro H7 ⟨sm7, hxy, hni⟩
        have sm7' := sm6.trans sm7
        have hz7 := sm7' _ _ hz3
        refine ⟨_, rfl, .inl ⟨rfl, _, SqL.of hz7⟩, _, rfl, _, rfl, by show 2 ≤ sizeLine; decide, fun t ht => ?_⟩
        have nDt : D ≠ t := ne_of_none hz7 ht
        refine ⟨D, _, _, rfl, rfl, by rw [upd_ne nDt]; exact hz7, by rw [zr_len]; exact Nat.lt_of_lt_of_le (show _ < 100 by omega) (by decide), ?_⟩
        refine ⟨⟨_, _, _, _, rfl⟩, ⟨zs ++ [(t, (x, y))], by rw [upd_same, zr_append]; rfl, PO.putL (xs := zr zs) (((po3.same sm7').putN ht).append (PO.one upd_same)) (by rw [upd_ne nDt]; exact hz7), ⟨?_, fun u hu => ?_⟩, by rw [List.length_append]; simp; omega⟩, sameE_put ((se3.trans (SameE.of sm7')).trans (SameE.of (same_new ht))) hD, ((pt3.same sm7').same (same_new ht)).put nDp.symm⟩
        · rw [zp_append]
          refine nodup_append' pr.nd (List.nodup_cons.mpr ⟨(fun z => nomatch z), List.nodup_nil⟩) fun u hu hv => hni ?_
          have e : u = (x, y) := List.mem_singleton.mp hv
          rw [← e]; exact hu
        · rw [zp_append] at hu
          rcases List.mem_append.mp hu with z | z
          · exact pr.rg u z
          · have e : u = (x, y) := List.mem_singleton.mp z
            subst e
            exact ⟨x0.1, hxy, y0.2⟩
      · intro H7 sm7
        have sm7' := sm6.trans sm7
        exact ⟨⟨_, _, _, _, rfl⟩, ⟨zs, sm7' _ _ hz3, po3.same sm7', pr, by omega⟩, se3.trans (SameE.of sm7'), pt3.same sm7'⟩
      · intro Y N yy nn
        refine ⟨_, rfl, _, rfl, _, _, rfl, rfl, _, rfl, ?_⟩
        refine ite2 (fun e => ?_) (fun e => ite_f (nn _ (Same.refl _)))
        have hxy : x < y := of_decide_eq_true e
        refine ⟨_, rfl, _, rfl, by show 2 ≤ sizeLine; decide, fun t ht => ⟨_, rfl, inP_of (u := (x, y)) (zs := zs) upd_same (same_new ht _ _ (sm6 _ _ hz3)) ((po3.same sm6).putN ht) ⟨_, rfl, ?_⟩⟩⟩
        refine ite2 (fun e2 => ?_) (fun e2 => ite_f (nn _ (same_new ht)))
        have hni : (x, y) ∉ zp zs := by
          intro z
          have : (!decide ((x, y) ∈ zp zs)) = true := e2
          rw [decide_eq_true z] at this
          exact absurd this (by decide)
        have hT' := same_new (o := prT (x, y)) ht _ _ hT
        refine ⟨_, rfl, .inl ⟨rfl, _, SqL.of hT'⟩, _, rfl, Tl, _, _, rfl, rfl, hT', rfl, iv_flat, _, rfl, .inl ⟨rfl, _, SqL.of hT'⟩, _, rfl, Tl, _, _, rfl, rfl, hT', rfl, iv_flat, _, _, rfl, _, _, rfl, rfl, _, rfl, ?_⟩
        exact ite2 (fun e3 => yy _ ⟨same_new ht, hxy, hni⟩) (fun e3 => nn _ (same_new ht))
    · rintro σ Hc ⟨⟨v4, v5, v6, v7, rfl⟩, ⟨zs, hz, po, pr, zl⟩, se, pt⟩
      exact ⟨_, rfl, q D zs Hc se pt hD hz po pr (by omega)⟩
end
end K51

set_option maxHeartbeats 1500000
namespace K51
open PySem L2
abbrev sCyc : Stmt := top 11
abbrev sOne : Stmt := top 12
theorem nbKRP : (["_law_k", "_law_rest", "_law_pot_here"] : List Str).Nodup := by decide +kernel
theorem nbKR : (["_law_k", "_law_row"] : List Str).Nodup := by decide +kernel
theorem nbTT : (["_law_tie", "_law_ties"] : List Str).Nodup := by decide +kernel
/-- the k-th tie of a row that goes round -/
def rowF (row : List Int) (k : Nat) : Int × Int := (row.getD (if k = 0 then row.length - 1 else k - 1) 0, row.getD k 0)
theorem map_getD {row : List Int} : (List.range row.length).map (fun k => row.getD k 0) = row := by
  refine List.ext_getElem (by simp) fun i h1 h2 => ?_
  rw [List.getElem_map, List.getElem_range, List.getD_eq_getElem?_getD, List.getElem?_eq_getElem h2]; rfl
theorem row_snd {row : List Int} : ((List.range row.length).map (rowF row)).map (·.2) = row := by
  rw [List.map_map]
  exact map_getD
theorem row_fst {row : List Int} (h : 0 < row.length) : (((List.range row.length).map (rowF row)).map (·.1)).Perm row := by
  obtain ⟨m, hm⟩ : ∃ m, row.length = m + 1 := ⟨row.length - 1, by omega⟩
  rw [List.map_map]
  have e1 : (List.range row.length).map ((·.1) ∘ rowF row) = row.getD m 0 :: (List.range m).map (fun k => row.getD k 0) := by
    rw [hm, List.range_succ_eq_map, List.map_cons, List.map_map]
    have a1 : ((·.1) ∘ rowF row) 0 = row.getD m 0 := by
      show row.getD (if 0 = 0 then row.length - 1 else 0 - 1) 0 = _
      rw [if_pos rfl, hm]; rfl
    rw [a1]
    congr 1
  rw [e1]
  have e2 : row = (List.range m).map (fun k => row.getD k 0) ++ [row.getD m 0] := by
    conv => lhs; rw [← map_getD (row := row), hm, List.range_succ, List.map_append]
    rfl
  conv => rhs; rw [e2]
  exact (List.perm_append_comm (l₁ := [row.getD m 0]))
theorem row_ties {row : List Int} {n : Int} (h : 0 < row.length) (nd : row.Nodup) (rg : ∀ x ∈ row, 0 ≤ x ∧ x < n) : Ties n ((List.range row.length).map (rowF row)) := by
  refine ⟨?_, fun p hp => ?_, fun k => ?_⟩
  · have : (((List.range row.length).map (rowF row)).map (·.2)).Nodup := by rw [row_snd]; exact nd
    exact List.Pairwise.imp (fun {a b} h e => h (by rw [e])) (List.pairwise_map.mp this)
  · have h1 : p.1 ∈ ((List.range row.length).map (rowF row)).map (·.1) := List.mem_map_of_mem hp
    have h2 : p.2 ∈ ((List.range row.length).map (rowF row)).map (·.2) := List.mem_map_of_mem hp
    rw [row_snd] at h2
    exact ⟨rg _ ((row_fst h).mem_iff.mp h1), rg _ h2⟩
  · rw [(row_fst h).count_eq, row_snd]
theorem row_at {row : List Int} {k : Nat} (h : k < row.length) : atI (IV row) ((k : Int) - 1) = some (.int (rowF row k).1) := by
  unfold rowF
  by_cases e : k = 0
  · subst e
    rw [if_pos rfl]
    unfold atI ixN
    rw [List.length_map, if_neg (by omega), if_pos (by omega)]
    have e2 : (((0 : Nat) : Int) - 1 + (row.length : Int)).toNat = row.length - 1 := by omega
    rw [e2, Option.bind_some, List.getElem?_map, List.getElem?_eq_getElem (by omega), List.getD_eq_getElem?_getD, List.getElem?_eq_getElem (by omega)]
    rfl
  · rw [if_neg e]
    have e2 : (k : Int) - 1 = ((k - 1 : Nat) : Int) := by omega
    rw [e2]
    exact iv_at (by omega)
theorem seqIx {k n : Nat} (h : k < n) : seqIndex? (k : Int) n = some k := by
  have e : (if (k : Int) < 0 then (k : Int) + n else (k : Int)) = k := if_neg (by omega)
  show (if (decide (0 ≤ (if (k : Int) < 0 then (k : Int) + n else (k : Int))) && decide ((if (k : Int) < 0 then (k : Int) + n else (k : Int)) < (n : Int))) = true then some (if (k : Int) < 0 then (k : Int) + n else (k : Int)).toNat else none) = some k
  rw [e, if_pos (by simp [h]), Int.toNat_natCast]
theorem cons_erase : ∀ {rs : List Int} {k : Nat}, k < rs.length → (rs.getD k 0 :: rs.eraseIdx k).Perm rs
  | [], _, h => absurd h (by simp)
  | _ :: _, 0, _ => .refl _
  | x :: xs, k + 1, h => (List.Perm.swap _ _ _).trans ((cons_erase (rs := xs) (k := k) (by simpa using h)).cons x)
theorem iv_erase : ∀ {rs : List Int} {k : Nat}, (IV rs).eraseIdx k = IV (rs.eraseIdx k)
  | [], _ => rfl
  | _ :: _, 0 => rfl
  | x :: xs, k + 1 => congrArg (V.int x :: ·) (iv_erase (rs := xs) (k := k))
theorem perm_erase {js rs R : List Int} {k : Nat} (h : (js ++ rs).Perm R) (hk : k < rs.length) : (js ++ [rs.getD k 0] ++ rs.eraseIdx k).Perm R := by
  have e := cons_erase hk
  rw [List.append_assoc]
  exact (List.Perm.append_left js e).trans h
theorem Ties.append {n : Int} {a b : List (Int × Int)} (h1 : Ties n a) (h2 : Ties n b) (h : ∀ x ∈ b, x ∉ a) : Ties n (a ++ b) :=
  ⟨nodup_append' h1.nd h2.nd fun x hx hy => h x hy hx, fun p hp => (List.mem_append.mp hp).elim (h1.rg p) (h2.rg p), fun k => by rw [List.map_append, List.map_append, List.count_append, List.count_append, h1.bal, h2.bal]⟩
section
variable {P : Program} {w : World} {K : PySem.W.Frag} {mg : Str → Option Value} {base : Heap}
theorem scCyc : FnScope ["_law_pot_here", "_law_many", "_law_size", "_law_rest", "_law_row"] ["_law_pot_here", "_law_many", "_law_size"] (defScope sCyc) := ⟨rfl, rfl, rfl, by decide +kernel, rfl, by decide +kernel, by decide +kernel⟩
def spCyc : Sp := fun vs H Q _ => ∃ (p : Addr) (n m : Int), vs = [.ref p, .int n, .int m] ∧ PotAt H p ∧ 1 ≤ m ∧ m ≤ n ∧ n ≤ 32 ∧ ∀ (L : Addr) (zs : Zs) (H' : Hp), SameE p H H' → PotAt H' p → H L = none → H' L = some (.lst (zr zs)) → PO H' zs → Ties n (zp zs) → zs.length ≤ 32 → Q (.ref L) H'
theorem ok_cyc {f : Addr} {fd : FuncData} (F : Fun K "_law_cycle" "_law_cycle" sCyc f fd) (B : Bl mg) (T : Cal P w K mg base CX0 1 "_law_take" ["_law_pot_here", "_law_many"] spTake) : FnOk P w K mg base CX0 2 f fd ["_law_pot_here", "_law_many", "_law_size"] spCyc := by
  refine F.ok scCyc (fun vs H Q E h => ?_) (fun cdv A outer s H vs Q E hr h => ?_)
  · obtain ⟨p, n, m, rfl, _⟩ := h
    rfl
  · obtain ⟨p, n, m, rfl, hp, m1, mn, n32, q⟩ := h
    refine' ⟨_, pss_cons (ps_set (i := 3) scCyc.nd rfl (Or.inr rfl) (pe_callTy (call_listR rfl) (by rfl) B.lst PyProof.Rows.boot_list (pa_cons (pe_callTy call_rangeV (by rfl) B.range PyProof.Rows.boot_range (pa_cons (pv 1) pa_nil)) pa_nil)))
      (pss_cons (ps_set (i := 4) scCyc.nd rfl (Or.inr rfl) ?c1)
      (pss_one (ps_ret ?c2))), ?_⟩
    case c1 =>
      refine' pe_comp (g := gName 0) (te := tBM K "list" rPopAt (tVar 1) (tCons (tCall spTake [] (fun _ _ _ => False) (tCons (tVar 2) (tCons (tCB (fun xs H Q => ∃ p ys, xs = [V.ref p] ∧ (SqL K H p ys ∨ SqT K H p ys) ∧ Q (.int ys.length) H) (tCons (tVar 1) tNil)) tNil))) tNil)) (NB := ["_law_k", "_law_rest", "_law_pot_here"]) (src := [none, some 3, some 0]) (blk_of (by kernel_rfl)) rfl (pi_range1 rfl B.range (pa_cons (pv 2) pa_nil)) ?g ?t ?e
      case g => exact fun cl C s₃ H₃ fp => pg_name (i := 0) nbKRP rfl (Or.inl rfl) (Or.inr rfl)
      case t => exact fun cl C s₃ H₃ fp => pts_nil
      case e => exact fun cl C s₃ H₃ fp => pe_bm PySem.F.plainAttrs_list PySem.F.slot_list_pop PySem.F.type_list_pop mt_popAt (pv 1) (pa_cons (pe_cal T hr pass0 (pa_cons (pv 2) (pa_cons (pe_callB call_len_seq (by rfl) B.len PySem.boot_len (pa_cons (pv 1) pa_nil)) pa_nil))) pa_nil)
    case c2 =>
      refine' pe_comp (g := gName 0) (te := tTup (tCons (tOp (rIxL K) (tVar 1) (tOp (rI0 fun i j => .int (i - j)) (tVar 0) (tC (.int 1)))) (tCons (tOp (rIxL K) (tVar 1) (tVar 0)) tNil))) (NB := ["_law_k", "_law_row"]) (src := [none, some 4]) (blk_of (by kernel_rfl)) rfl (pi_range1 rfl B.range (pa_cons (pv 2) pa_nil)) ?g ?t ?e
      case g => exact fun cl C s₃ H₃ fp => pg_name (i := 0) nbKR rfl (Or.inl rfl) (Or.inr rfl)
      case t => exact fun cl C s₃ H₃ fp => pts_nil
      case e => exact fun cl C s₃ H₃ fp => pe_tup (pa_cons (pe_ix ix_list (pv 1) (pe_op op_sub (pv 0) pe_int) (fun _ _ => rfl)) (pa_cons (pe_ix ix_list (pv 1) (pv 0) (fun _ _ => rfl)) pa_nil))
    refine ⟨_, rfl, n, rfl, fun R0 hR0 => ⟨R0, n.toNat, rfl, by rw [upd_same]; congr 2; omega, by omega, fun L hL => ?_⟩⟩
    have hL0 : H L = none := (same_new hR0).free hL
    have nLp : L ≠ p := hp.ne hL0
    have eR : (List.range n.toNat).map (fun (i : Nat) => V.int i) = IV ((List.range n.toNat).map fun (i : Nat) => (i : Int)) := by unfold IV; rw [List.map_map]; rfl
    rw [eR]
    have hRg : ∀ x ∈ (List.range n.toNat).map (fun (i : Nat) => (i : Int)), 0 ≤ x ∧ x < n := by
      intro x hx
      obtain ⟨i, hi, rfl⟩ := List.mem_map.mp hx
      have := List.mem_range.mp hi
      omega
    have hRn : ((List.range n.toNat).map (fun (i : Nat) => (i : Int))).Nodup := nodup_map' List.nodup_range fun x _ y _ e => by omega
    have hRl : ((List.range n.toNat).map (fun (i : Nat) => (i : Int))).length = n.toNat := by simp
    revert hRg hRn hRl
    generalize (List.range n.toNat).map (fun (i : Nat) => (i : Int)) = R
    intro hRg hRn hRl
    have sm1 : Same H (upd (upd H R0 (.rng 0 n)) L (.lst (IV R))) := (same_new hR0).trans (same_new hL)
    have hL1 : (upd (upd H R0 (.rng 0 n)) L (.lst (IV R))) L = some (.lst (IV R)) := upd_same
    revert sm1 hL1
    generalize upd (upd H R0 (.rng 0 n)) L (.lst (IV R)) = H1
    intro sm1 hL1
    refine ⟨_, rfl, m, rfl, by omega, by omega, fun D hD => ?_⟩
    have hD0 : H D = none := sm1.free hD
    have nDp : D ≠ p := hp.ne hD0
    have nDL : D ≠ L := (ne_of_none hL1 hD).symm
    refine comp_range (lo := 0) (n := m.toNat) (fun i ys σ H2 => (∃ u, σ = [u, some (.ref L), some (.ref p)]) ∧ SameE p H H2 ∧ PotAt H2 p ∧ H2 D = some (.lst ys) ∧ ∃ js rs, ys = IV js ∧ H2 L = some (.lst (IV rs)) ∧ (js ++ rs).Perm R ∧ js.length = i)
      ⟨⟨_, rfl⟩, SameE.of (sm1.trans (same_new hD)), hp.same (sm1.trans (same_new hD)), upd_same, [], R, rfl, same_new hD _ _ hL1, .refl _, rfl⟩ ?_ ?_
    · rintro i ys σ H2 Kt Kf hi ⟨⟨u, rfl⟩, se, pt, hD2, js, rs, rfl, hL2, pm, jl⟩ kt kf
      have pl := pm.length_eq
      rw [List.length_append, hRl] at pl
      have rl : 0 < rs.length := by omega
      refine ⟨_, rfl, .inl ⟨rfl, _, SqL.of hL2⟩, _, rfl, _, rfl, L, _, rfl, .inl (SqL.of hL2), p, _, rfl, by rw [List.length_map]; omega, by rw [List.length_map]; omega, pt, fun d H3 d0 d1 se3 pt3 => ?_⟩
      rw [List.length_map] at d1
      obtain ⟨dn, rfl⟩ : ∃ dn : Nat, (dn : Int) = d := ⟨d.toNat, by omega⟩
      have hdn : dn < rs.length := by omega
      have hD3 := se3 _ _ hD2 nDp
      refine ⟨L, _, _, dn, .int (rs.getD dn 0), rfl, rfl, se3 _ _ hL2 nLp, by omega, by omega, by rw [List.length_map]; exact seqIx hdn, ?_, ?_⟩
      · rw [List.getElem?_map, List.getElem?_eq_getElem hdn, List.getD_eq_getElem?_getD, List.getElem?_eq_getElem hdn]; rfl
      · refine kt _ _ _ (by rw [upd_ne nDL]; exact hD3) (by rw [List.length_map, jl]; exact Nat.lt_of_lt_of_le (show i < 33 by omega) (by decide)) ⟨⟨_, rfl⟩, sameE_put (sameE_put (se.trans se3) hL0) hD0, (pt3.put nLp.symm).put nDp.symm, upd_same, js ++ [rs.getD dn 0], rs.eraseIdx dn, iv_snoc, ?_, perm_erase pm hdn, by rw [List.length_append, jl]; rfl⟩
        rw [upd_ne nDL.symm, upd_same]
        rw [iv_erase]
    · rintro ys σ H2 ⟨_, se, pt, hD2, js, rs, rfl, hL2, pm, jl⟩
      have ndj : js.Nodup := (List.nodup_append.mp (pm.nodup_iff.mpr hRn)).1
      have rgj : ∀ x ∈ js, 0 ≤ x ∧ x < n := fun x hx => hRg x (pm.mem_iff.mp (List.mem_append.mpr (.inl hx)))
      refine ⟨_, rfl, m, rfl, by omega, by omega, fun D2 hD2' => ?_⟩
      refine comp_mkR (lo := 0) (rowF js) (fun σ => ∃ u, σ = [u, some (.ref D)]) hD2' (by omega) ⟨_, rfl⟩ ?_ ?_
      · rintro k σ H4 R' Kf hk ⟨u, rfl⟩ sm4 kt
        rw [Int.zero_add]
        have hk' : k < js.length := by omega
        exact ⟨_, rfl, _, rfl, _, _, rfl, rfl, D, _, _, _, rfl, rfl, SqL.of (sm4 _ _ hD2), row_at hk', _, rfl, _, rfl, D, _, _, _, rfl, rfl, SqL.of (sm4 _ _ hD2), iv_at hk', by show 2 ≤ sizeLine; decide, fun t ht => kt _ t ⟨_, rfl⟩ ht⟩
      · rintro zs H4 sm4 hD4 po4 ez
        rw [← jl] at ez
        refine q D2 zs H4 (se.trans (SameE.of sm4)) (pt.same sm4) (se.free pt.full hD2') hD4 po4 (by rw [ez]; exact row_ties (by omega) ndj rgj) ?_
        rw [← zp_len, ez, List.length_map, List.length_range]; omega
theorem scOne : FnScope ["_law_pot_here", "_law_many", "_law_ties", "_law_k", "_law_more"] ["_law_pot_here", "_law_many"] (defScope sOne) := ⟨rfl, rfl, rfl, by decide +kernel, rfl, by decide +kernel, by decide +kernel⟩
def spOne : Sp := fun vs H Q _ => ∃ (p : Addr) (n : Int), vs = [.ref p, .int n] ∧ PotAt H p ∧ 2 ≤ n ∧ n ≤ 32 ∧ ∀ (L : Addr) (zs : Zs) (H' : Hp), SameE p H H' → PotAt H' p → H L = none → H' L = some (.lst (zr zs)) → PO H' zs → Ties n (zp zs) → zs.length ≤ 400 → Q (.ref L) H'
theorem ok_one {f : Addr} {fd : FuncData} (F : Fun K "_law_one_way" "_law_one_way" sOne f fd) (B : Bl mg) (T : Cal P w K mg base CX0 1 "_law_take" ["_law_pot_here", "_law_many"] spTake) (CY : Cal P w K mg base CX0 2 "_law_cycle" ["_law_pot_here", "_law_many", "_law_size"] spCyc) : FnOk P w K mg base CX0 3 f fd ["_law_pot_here", "_law_many"] spOne := by
  refine F.ok scOne (fun vs H Q E h => ?_) (fun cdv A outer s H vs Q E hr h => ?_)
  · obtain ⟨p, n, rfl, _⟩ := h
    rfl
  · obtain ⟨p, n, rfl, hp, n2, n32, q⟩ := h
    have hu : (A.deeper (PyProof.Rows.envOfC "_law_one_way" (defScope sOne) s.heap.objs.size f cdv)).units + 2 < cLine := by have := hr.un; omega
    have hr1 : Room 1 (A.deeper (PyProof.Rows.envOfC "_law_one_way" (defScope sOne) s.heap.objs.size f cdv)) := hr.mono (by decide)
    refine' ⟨_, pss_cons (ps_set (i := 2) scOne.nd rfl (Or.inr rfl) (pe_cal CY hr pass0 (pa_cons (pv 0) (pa_cons (pv 1) (pa_cons (pv 1) pa_nil)))))
      (pss_cons (ps_for PassesOwn.never rfl (pi_range1 rfl B.range (pa_cons (pe_cal T hr1 pass0 (pa_cons (pv 0) (pa_cons pe_int pa_nil))) pa_nil)) (pg_name (i := 3) scOne.nd rfl (Or.inl rfl))
        (pss_cons (ps_set (i := 4) scOne.nd rfl (Or.inl rfl) (pe_cal CY hr pass0 (pa_cons (pv 0) (pa_cons (pv 1) (pa_cons (pe_op op_add pe_int (pe_cal T hr1 pass0 (pa_cons (pv 0) (pa_cons (pe_op op_sub (pv 1) pe_int) pa_nil)))) pa_nil)))))
        (pss_one (ps_if (pt_cmpR (op_eqL (e := eqV) hu) ?c1 (pe_lst pa_nil) (nomark _))
          (pss_one (ps_set (i := 2) scOne.nd rfl (Or.inr rfl) (pe_op op_cat (pv 2) (pv 4))))
          pss_nil))))
      (pss_one (ps_ret (pe_callB call_sortA (by rfl) B.sorted PyProof.Rows.boot_sorted (pa_cons (pv 2) pa_nil))))), ?_⟩
    case c1 =>
      refine' pe_comp (g := gName 0) (tt := tTest (tOp (rInP K false) (tVar 0) (tVar 1))) (te := tVar 0) (NB := ["_law_tie", "_law_ties"]) (src := [none, some 2]) (blk_of (by kernel_rfl)) rfl (pi_list (pv 4)) ?g ?t ?e
      case g => exact fun cl C s₃ H₃ fp => pg_name (i := 0) nbTT rfl (Or.inl rfl) (Or.inr rfl)
      case t => exact fun cl C s₃ H₃ fp => pts_one (pt_cmpR (op_inP hu) (pv 0) (pv 1) (by rfl))
      case e => exact fun cl C s₃ H₃ fp => pv 0
    refine ⟨_, rfl, _, rfl, _, rfl, p, n, n, rfl, hp, by omega, by omega, n32, fun L0 zs0 H1 se1 pt1 hL0 hL1 po1 ti1 zl1 => ?_⟩
    have nL0p : L0 ≠ p := hp.ne hL0
    refine ⟨_, rfl, p, _, rfl, by decide, by decide, pt1, fun d H2 d0 d6 se2 pt2 => ?_⟩
    refine ⟨d, rfl, by omega, by omega, for_range (lo := 0) (n := d.toNat) (fun i σ Hc => (∃ L v3 v4 zs, σ = [some (.ref p), some (.int n), some (.ref L), v3, v4] ∧ H L = none ∧ Hc L = some (.lst (zr zs)) ∧ PO Hc zs ∧ Ties n (zp zs) ∧ zs.length ≤ 32 * (i + 1)) ∧ SameE p H Hc ∧ PotAt Hc p) ?_ ?_ ?_⟩
    · exact ⟨⟨L0, _, _, zs0, rfl, hL0, se2 _ _ hL1 nL0p, po1.sameE se2 pt1, ti1, by omega⟩, se1.trans se2, pt2⟩
    · rintro i σ Hc hi ⟨⟨L, v3, v4, zs, rfl, hLn, hL, po, ti, zl⟩, se, pt⟩
      have nLp : L ≠ p := hp.ne hLn
      refine ⟨_, rfl, _, rfl, _, rfl, _, rfl, _, _, rfl, rfl, p, _, rfl, by omega, by omega, pt, fun e Hd e0 e1 sed ptd => ?_⟩
      refine ⟨_, _, rfl, rfl, p, n, _, rfl, ptd, by omega, by omega, n32, fun M zm H3 se3 pt3 hM hM3 po3 ti3 zl3 => ?_⟩
      have nMp : M ≠ p := ptd.ne hM
      have hL3 : H3 L = some (.lst (zr zs)) := se3 _ _ (sed _ _ hL nLp) nLp
      have poz3 : PO H3 zs := (po.sameE sed pt).sameE se3 ptd
      have se3' : SameE p H H3 := (se.trans sed).trans se3
      dsimp only [gName]
      refine if_k (fun Hk => Same H3 Hk ∧ ∀ x ∈ zp zm, x ∉ zp zs) (fun Hk => Same H3 Hk) ?_ ?_ ?_
      · rintro H4 ⟨sm4, dj⟩
        refine ⟨_, rfl, _, rfl, L, M, _, _, rfl, rfl, sm4 _ _ hL3, sm4 _ _ hM3, by rw [zr_len, zr_len]; exact Nat.le_trans (show _ ≤ 1000 by omega) (by decide), fun r hr' => ?_⟩
        refine ⟨⟨r, _, _, zs ++ zm, rfl, (se3'.trans (SameE.of sm4)).free (pt3.same sm4).full hr', by rw [upd_same, zr_append], ((poz3.append po3).same sm4).putN hr', by rw [zp_append]; exact ti.append ti3 dj, by rw [List.length_append]; omega⟩, (se3'.trans (SameE.of sm4)).trans (SameE.of (same_new hr')), (pt3.same sm4).same (same_new hr')⟩
      · intro H4 sm4
        exact ⟨⟨L, _, _, zs, rfl, hLn, sm4 _ _ hL3, poz3.same sm4, ti, by omega⟩, se3'.trans (SameE.of sm4), pt3.same sm4⟩
      · intro Y N yy nn
        refine ⟨_, rfl, M, rfl, ⟨_, SqL.of hM3⟩, fun D hD => ?_⟩
        refine comp_list (K := K) (a := M) (xs := zr zm) (fun i ys σ H4 => (∃ u, σ = [u, some (.ref L)]) ∧ Same H3 H4 ∧ H4 D = some (.lst ys) ∧ ys.length ≤ i ∧ (ys = [] → ∀ x ∈ (zp zm).take i, x ∉ zp zs)) ⟨⟨_, rfl⟩, same_new hD, upd_same, Nat.le_refl _, fun _ x hx => (nomatch hx)⟩ (fun i ys σ H4 _ z => SqL.of (z.2.1 _ _ hM3)) ?_ ?_
        · rintro j x ys σ H4 Kt Kf hx ⟨⟨u, rfl⟩, sm4, hD4, yl, yn⟩ kt kf
          obtain ⟨z, hz, rfl⟩ := zr_get hx
          have hj : j < zm.length := (List.getElem?_eq_some_iff.mp hz).1
          have hzm : z ∈ zm := List.mem_of_getElem? hz
          have e2 : (zp zm)[j]? = some z.2 := by unfold zp; rw [List.getElem?_map, hz]; rfl
          refine ⟨_, rfl, _, rfl, inP_of (zs := zs) (sm4 _ _ (po3 z hzm)) (sm4 _ _ hL3) (poz3.same sm4) ⟨_, rfl, ?_⟩⟩
          refine ite2 (fun e => ?_) (fun e => ?_)
          · refine ⟨_, rfl, kt _ _ _ hD4 (Nat.lt_of_lt_of_le (show _ < 100 by omega) (by decide)) ⟨⟨_, rfl⟩, same_put sm4 hD, upd_same, by rw [List.length_append]; simp; omega, fun z => absurd z (by simp)⟩⟩
          · refine kf _ _ ⟨⟨_, rfl⟩, sm4, hD4, by omega, fun h0 x hx => ?_⟩
            rw [List.take_add_one, e2, Option.toList_some] at hx
            rcases List.mem_append.mp hx with y | y
            · exact yn h0 x y
            · rw [List.mem_singleton.mp y]
              exact fun y2 => e (decide_eq_true y2)
        · rintro ys σ H4 ⟨_, sm4, hD4, yl, yn⟩
          rw [zr_len, ← zp_len, List.take_length] at yn
          refine ⟨by show 0 ≤ sizeLine; decide, fun E0 hE0 => ⟨D, E0, _, _, rfl, rfl, SqL.of (same_new hE0 _ _ hD4), SqL.of upd_same, fun i _ hi => absurd hi (by simp), _, rfl, ?_⟩⟩
          refine ite2 (fun e => yy _ ⟨sm4.trans (same_new hE0), yn ?_⟩) (fun e => nn _ (sm4.trans (same_new hE0)))
          cases ys with
          | nil => rfl
          | cons y ys => exact absurd (show false = true from e) (by decide)
    · rintro σ Hc ⟨⟨L, v3, v4, zs, rfl, hLn, hL, po, ti, zl⟩, se, pt⟩
      refine ⟨_, rfl, sort_of hL po (by omega) fun D zs' hD pm => ?_⟩
      refine q D zs' _ (se.trans (SameE.of (same_new hD))) (pt.same (same_new hD)) (se.free pt.full hD) upd_same (fun z hz => same_new hD _ _ (po z (pm.mem_iff.mp hz))) (ti.perm (perm_zp pm)) (by rw [pm.length_eq]; omega)
end
end K51

set_option maxHeartbeats 1500000
namespace K51
open PySem L2
abbrev sNet : Stmt := top 13
abbrev sGround : Stmt := top 14
theorem nbH1 : (["_law_house"] : List Str).Nodup := by decide +kernel
theorem nbOO : (["_law_one", "_law_other"] : List Str).Nodup := by decide +kernel
theorem seq_k {t u : TS} {D : Ends} {σ : St} {H : Hp} (G : St → Hp → Prop) (hr : ∀ σ H, G σ H → u D σ H) (ht : ∀ N : St → Hp → Prop, (∀ σ H, G σ H → N σ H) → t { D with nx := N } σ H) : tSeq t u D σ H := ht _ hr
structure NetG (p : Addr) (H : Hp) (L : Addr) (n : Int) (zs : Zs) (Hc : Hp) : Prop where
  se : SameE p H Hc
  pt : PotAt Hc p
  fr : H L = none
  at_ : Hc L = some (.lst (zr zs))
  po : PO Hc zs
  pr : Prs n (zp zs)
  le : zs.length ≤ 160
  n1 : 1 ≤ n
  n32 : n ≤ 32
theorem NetG.same {p : Addr} {H : Hp} {L : Addr} {n : Int} {zs : Zs} {Hc Hd : Hp} (g : NetG p H L n zs Hc) (s : Same Hc Hd) : NetG p H L n zs Hd := ⟨g.se.trans (SameE.of s), g.pt.same s, g.fr, s _ _ g.at_, g.po.same s, g.pr, g.le, g.n1, g.n32⟩
theorem prs_ring {n : Int} (h : 3 ≤ n) : Prs n ((List.range (n - 1).toNat).map (fun (h : Nat) => ((h : Int), (h : Int) + 1)) ++ [(0, n - 1)]) := by
  refine ⟨nodup_append' (nodup_map' List.nodup_range fun x _ y _ e => ?_) (List.nodup_cons.mpr ⟨(fun z => nomatch z), List.nodup_nil⟩) fun x hx hy => ?_, fun p hp => ?_⟩
  · have e1 : (x : Int) = y := congrArg Prod.fst e
    omega
  · obtain ⟨y, hy', rfl⟩ := List.mem_map.mp hx
    have e := List.mem_singleton.mp hy
    have e1 : (y : Int) = 0 := congrArg Prod.fst e
    have e2 : (y : Int) + 1 = n - 1 := congrArg Prod.snd e
    omega
  · rcases List.mem_append.mp hp with z | z
    · obtain ⟨y, hy', rfl⟩ := List.mem_map.mp z
      have := List.mem_range.mp hy'
      dsimp only
      omega
    · rw [List.mem_singleton.mp z]
      dsimp only
      omega
theorem Prs.star {k : Nat} {ps : List (Int × Int)} (h : Prs k ps) : Prs ((k + 1 : Nat) : Int) (ps ++ (List.range k).map (fun (o : Nat) => ((o : Int), (k : Int)))) := by
  refine ⟨nodup_append' h.nd (nodup_map' List.nodup_range fun x _ y _ e => ?_) fun x hx hy => ?_, fun p hp => ?_⟩
  · have e1 : (x : Int) = y := congrArg Prod.fst e
    omega
  · obtain ⟨y, hy', rfl⟩ := List.mem_map.mp hy
    have := h.rg _ hx
    dsimp only at this
    omega
  · rcases List.mem_append.mp hp with z | z
    · have := h.rg p z; omega
    · obtain ⟨y, hy', rfl⟩ := List.mem_map.mp z
      have := List.mem_range.mp hy'
      dsimp only
      omega
section
variable {P : Program} {w : World} {K : PySem.W.Frag} {mg : Str → Option Value} {base : Heap}
theorem scNet : FnScope ["_law_pot_here", "_law_way", "_law_many", "_law_pairs", "_law_other"] ["_law_pot_here"] (defScope sNet) := ⟨rfl, rfl, rfl, by decide +kernel, rfl, by decide +kernel, by decide +kernel⟩
def spNet : Sp := fun vs H Q _ => ∃ (p : Addr), vs = [.ref p] ∧ PotAt H p ∧ ∀ (r L : Addr) (n : Int) (zs : Zs) (H' : Hp), SameE p H H' → PotAt H' p → H' r = some (.tup [.int n, .ref L]) → H L = none → H' L = some (.lst (zr zs)) → PO H' zs → Ties n (zp zs) → zs.length ≤ 400 → 1 ≤ n → n ≤ 32 → Q (.ref r) H'
theorem ok_net {f : Addr} {fd : FuncData} (F : Fun K "_law_net" "_law_net" sNet f fd) (B : Bl mg) (T : Cal P w K mg base CX0 1 "_law_take" ["_law_pot_here", "_law_many"] spTake) (SD : Cal P w K mg base CX0 2 "_law_sides" ["_law_pot_here"] spSides) (BX : Cal P w K mg base CX0 1 "_law_box_pairs" ["_law_sides_here"] spBox)
    (TR : Cal P w K mg base CX0 2 "_law_tree_pairs" ["_law_pot_here", "_law_many"] spTree) (MO : Cal P w K mg base CX0 2 "_law_more_pairs" ["_law_pot_here", "_law_many", "_law_pairs"] spMore) (OW : Cal P w K mg base CX0 3 "_law_one_way" ["_law_pot_here", "_law_many"] spOne) : FnOk P w K mg base CX0 4 f fd ["_law_pot_here"] spNet := by
  refine F.ok scNet (fun vs H Q E h => ?_) (fun cdv A outer s H vs Q E hr h => ?_)
  · obtain ⟨p, rfl, _⟩ := h
    rfl
  · obtain ⟨p, rfl, hp, q⟩ := h
    have hr1 : Room 1 (A.deeper (PyProof.Rows.envOfC "_law_net" (defScope sNet) s.heap.objs.size f cdv)) := hr.mono (by decide)
    have hr2 : Room 2 (A.deeper (PyProof.Rows.envOfC "_law_net" (defScope sNet) s.heap.objs.size f cdv)) := hr.mono (by decide)
    refine' ⟨_, pss_cons (ps_set (i := 1) scNet.nd rfl (Or.inl rfl) (pe_cal T hr1 pass0 (pa_cons (pv 0) (pa_cons pe_int pa_nil))))
      (pss_cons (ps_set (i := 2) scNet.nd rfl (Or.inl rfl) (pe_op op_add pe_int (pe_cal T hr1 pass0 (pa_cons (pv 0) (pa_cons pe_int pa_nil)))))
      (pss_cons (ps_if (pt_cmpR op_eq (pv 1) pe_int (nomark _)) (pss_one (ps_ret (pe_tup (pa_cons (pv 2) (pa_cons (pe_cal OW hr pass0 (pa_cons (pv 0) (pa_cons (pv 2) pa_nil))) pa_nil))))) pss_nil)
      (pss_cons (ps_set (i := 3) scNet.nd rfl (Or.inl rfl) (pe_cal TR hr2 pass0 (pa_cons (pv 0) (pa_cons (pv 2) pa_nil))))
      (pss_cons (ps_if (pt_cmpR op_eq (pv 1) pe_int (nomark _)) (pss_one (ps_set (i := 3) scNet.nd rfl (Or.inl rfl) (pe_cal MO hr2 pass0 (pa_cons (pv 0) (pa_cons (pv 2) (pa_cons (pv 3) pa_nil)))))) pss_nil)
      (pss_cons (ps_if (pt_cmpR op_eq (pv 1) pe_int (nomark _)) (pss_cons (ps_set (i := 2) scNet.nd rfl (Or.inl rfl) (pe_callB (call_max2 rfl) (by rfl) B.max PyProof.Rows.boot_max (pa_cons pe_int (pa_cons (pv 2) pa_nil)))) (pss_one (ps_set (i := 3) scNet.nd rfl (Or.inl rfl) (pe_op op_cat ?c1 (pe_lst (pa_cons (pe_tup (pa_cons pe_int (pa_cons (pe_op op_sub (pv 2) pe_int) pa_nil))) pa_nil)))))) pss_nil)
      (pss_cons (ps_if (pt_cmpR op_eq (pv 1) pe_int (nomark _)) (pss_cons (ps_set (i := 2) scNet.nd rfl (Or.inl rfl) (pe_op op_add pe_int (pe_op op_mod (pv 2) pe_int))) (pss_cons (ps_set (i := 3) scNet.nd rfl (Or.inl rfl) (pe_lst pa_nil)) (pss_one (ps_for PassesOwn.never rfl (pi_range1 rfl B.range (pa_cons (pv 2) pa_nil)) (pg_name (i := 4) scNet.nd rfl (Or.inr rfl)) (pss_one (ps_set (i := 3) scNet.nd rfl (Or.inl rfl) (pe_op op_cat (pv 3) ?c2))))))) pss_nil)
      (pss_cons (ps_if (pt_cmpR op_in_seq (pv 1) (pe_tup (pa_cons pe_int (pa_cons pe_int pa_nil))) (by rfl)) (pss_one (ps_asg (pe_cal BX hr1 pass0 (pa_cons (pe_cal SD hr2 pass0 (pa_cons (pv 0) pa_nil)) pa_nil)) (pg_tup (n := 2) rfl (pgs_cons (pg_name (i := 2) scNet.nd rfl (Or.inl rfl)) (pgs_cons (pg_name (i := 3) scNet.nd rfl (Or.inl rfl)) pgs_nil))))) pss_nil)
      (pss_one (ps_ret (pe_tup (pa_cons (pv 2) (pa_cons (pe_callB call_sortA (by rfl) B.sorted PyProof.Rows.boot_sorted (pa_cons (pe_op op_cat (pv 3) ?c3) pa_nil)) pa_nil)))))))))))), ?_⟩
    case c1 =>
      refine' pe_comp (g := gName 0) (te := tTup (tCons (tVar 0) (tCons (tOp (rI0 fun i j => .int (i + j)) (tVar 0) (tC (.int 1))) tNil))) (NB := ["_law_house"]) (src := [none]) (blk_of (by kernel_rfl)) rfl (pi_range1 rfl B.range (pa_cons (pe_op op_sub (pv 2) pe_int) pa_nil)) ?g ?t ?e
      case g => exact fun cl C s₃ H₃ fp => pg_name (i := 0) nbH1 rfl (Or.inl rfl) (Or.inr rfl)
      case t => exact fun cl C s₃ H₃ fp => pts_nil
      case e => exact fun cl C s₃ H₃ fp => pe_tup (pa_cons (pv 0) (pa_cons (pe_op op_add (pv 0) pe_int) pa_nil))
    case c2 =>
      refine' pe_comp (g := gName 0) (te := tTup (tCons (tVar 0) (tCons (tVar 1) tNil))) (NB := ["_law_one", "_law_other"]) (src := [none, some 4]) (blk_of (by kernel_rfl)) rfl (pi_range1 rfl B.range (pa_cons (pv 4) pa_nil)) ?g ?t ?e
      case g => exact fun cl C s₃ H₃ fp => pg_name (i := 0) nbOO rfl (Or.inl rfl) (Or.inr rfl)
      case t => exact fun cl C s₃ H₃ fp => pts_nil
      case e => exact fun cl C s₃ H₃ fp => pe_tup (pa_cons (pv 0) (pa_cons (pv 1) pa_nil))
    case c3 =>
      refine' pe_comp (g := gTup K 2 (gCons (gName 0) (gCons (gName 1) gNil))) (te := tTup (tCons (tVar 1) (tCons (tVar 0) tNil))) (NB := ["_law_one", "_law_other"]) (src := [none, none]) (blk_of (by kernel_rfl)) rfl (pi_list (pv 3)) ?g ?t ?e
      case g => exact fun cl C s₃ H₃ fp => pg_tup (n := 2) rfl (pgs_cons (pg_name (i := 0) nbOO rfl (Or.inl rfl) (Or.inr rfl)) (pgs_cons (pg_name (i := 1) nbOO rfl (Or.inl rfl) (Or.inr rfl)) pgs_nil))
      case t => exact fun cl C s₃ H₃ fp => pts_nil
      case e => exact fun cl C s₃ H₃ fp => pe_tup (pa_cons (pv 1) (pa_cons (pv 0) pa_nil))
    refine ⟨_, rfl, p, _, rfl, by decide, by decide, hp, fun way H1 w0 w7 se1 pt1 => ?_⟩
    refine ⟨_, rfl, p, _, rfl, by decide, by decide, pt1, fun d H2 d0 d31 se2' pt2 => ⟨_, _, rfl, rfl, ?_⟩⟩
    have se2 := se1.trans se2'
    dsimp only [gName]
    generalize hn : (2 : Int) + d = n
    have n2 : 2 ≤ n := by omega
    have n32 : n ≤ 32 := by omega
    clear hn d0 d31
    refine seq_k (fun σ Hc => σ = [some (.ref p), some (.int way), some (.int n), none, none] ∧ Hc = H2) ?_ ?_
    rotate_left
    · intro N nN
      refine if_k (fun Hk => H2 = Hk) (fun Hk => H2 = Hk) ?_ ?_ ?_
      · rintro _ rfl
        refine ⟨_, rfl, _, rfl, _, rfl, p, n, rfl, pt2, n2, n32, fun L zs H3 se3 pt3 hL hL3 po3 ti3 zl3 => ⟨by show 2 ≤ sizeLine; decide, fun r hr' => ?_⟩⟩
        have hL0 : H L = none := se2.free pt2.full hL
        exact q r L n zs _ ((se2.trans se3).trans (SameE.of (same_new hr'))) (pt3.same (same_new hr')) upd_same hL0 (same_new hr' _ _ hL3) (po3.putN hr') ti3 zl3 (by omega) n32
      · rintro _ rfl
        exact nN _ _ ⟨rfl, rfl⟩
      · intro Y N' yy nn
        exact ⟨_, rfl, rfl, _, rfl, ite2 (fun e => yy _ rfl) (fun e => nn _ rfl)⟩
    rintro σ Hc ⟨rfl, rfl⟩
    refine ⟨_, rfl, _, rfl, p, n, rfl, pt2, n2, n32, fun L zs H3 se3 pt3 hL hL3 po3 pr3 zl3 => ?_⟩
    have hL0 : H L = none := se2.free pt2.full hL
    have nLp : L ≠ p := hp.ne hL0
    dsimp only [gName]
    refine seq_k (fun σ Hc => ∃ L n zs v4, σ = [some (.ref p), some (.int way), some (.int n), some (.ref L), v4] ∧ NetG p H L n zs Hc) ?_ ?_
    rotate_left
    · intro N nN
      refine if_k (fun Hk => H3 = Hk) (fun Hk => H3 = Hk) ?_ ?_ ?_
      · rintro _ rfl
        refine ⟨_, rfl, _, rfl, _, rfl, p, L, n, zs, rfl, pt3, hL3, po3, pr3, zl3, by omega, n32, fun L4 zs4 H4 se4 pt4 hL4 hL44 po4 pr4 zl4 => ?_⟩
        exact nN _ _ ⟨L4, n, zs4, _, rfl, (se2.trans se3).trans se4, pt4, (se2.trans se3).free pt3.full hL4, hL44, po4, pr4, by omega, by omega, n32⟩
      · rintro _ rfl
        exact nN _ _ ⟨L, n, zs, _, rfl, se2.trans se3, pt3, hL0, hL3, po3, pr3, by omega, by omega, n32⟩
      · intro Y N' yy nn
        exact ⟨_, rfl, rfl, _, rfl, ite2 (fun e => yy _ rfl) (fun e => nn _ rfl)⟩
    clear hL0 nLp zl3 pr3 po3 hL3 hL pt3 se3 n2 n32
    rintro σ Hc ⟨L, n, zs, v4, rfl, g⟩
    refine seq_k (fun σ Hc => ∃ L n zs v4, σ = [some (.ref p), some (.int way), some (.int n), some (.ref L), v4] ∧ NetG p H L n zs Hc) ?_ ?_
    rotate_left
    · intro N nN
      refine if_k (fun Hk => Hc = Hk) (fun Hk => Hc = Hk) ?_ ?_ ?_
      · rintro _ rfl
        refine ⟨_, rfl, _, _, rfl, ?_⟩
        have m3 : 3 ≤ (if n > 3 then n else 3) := by split <;> omega
        have m32 : (if n > 3 then n else 3) ≤ 32 := by have := g.n32; split <;> omega
        revert m3 m32
        generalize (if n > 3 then n else (3 : Int)) = m
        intro m3 m32
        refine ⟨_, rfl, _, _, rfl, rfl, _, rfl, by omega, by omega, fun D hD => ?_⟩
        refine comp_mkR (lo := 0) (fun h => ((h : Int), (h : Int) + 1)) (fun σ => ∃ u, σ = [u]) hD (by omega) ⟨_, rfl⟩ ?_ ?_
        · rintro j σ H4 R Kf hj ⟨u, rfl⟩ sm4 kt
          rw [Int.zero_add]
          exact ⟨_, rfl, _, rfl, _, _, rfl, rfl, by show 2 ≤ sizeLine; decide, fun t ht => kt _ t ⟨_, rfl⟩ ht⟩
        · rintro zs2 H4 sm4 hD4 po4 ez
          have hl2 : zs2.length = (m - 1).toNat := by rw [← zp_len, ez, List.length_map, List.length_range]
          refine ⟨_, rfl, _, _, rfl, rfl, by show 2 ≤ sizeLine; decide, fun t ht => ⟨by show 1 ≤ sizeLine; decide, fun D2 hD2 => ?_⟩⟩
          refine ⟨D, D2, _, _, rfl, rfl, same_new hD2 _ _ (same_new ht _ _ hD4), upd_same, by rw [zr_len]; exact Nat.le_trans (show _ ≤ 100 by simp; omega) (by decide), fun r hr' => ?_⟩
          have sm5 : Same Hc (upd (upd (upd H4 t (.tup [.int 0, .int (m - 1)])) D2 (.lst [.ref t])) r (.lst (zr zs2 ++ [.ref t]))) := ((sm4.trans (same_new ht)).trans (same_new hD2)).trans (same_new hr')
          have po5 : PO (upd (upd (upd H4 t (.tup [.int 0, .int (m - 1)])) D2 (.lst [.ref t])) r (.lst (zr zs2 ++ [.ref t]))) (zs2 ++ [(t, (0, m - 1))]) := (((po4.putN ht).append (PO.one upd_same)).putN hD2).putN hr'
          refine nN _ _ ⟨r, m, zs2 ++ [(t, (0, m - 1))], _, rfl, g.se.trans (SameE.of sm5), g.pt.same sm5, g.se.free g.pt.full (((sm4.trans (same_new ht)).trans (same_new hD2)).free hr'), by rw [zr_append]; exact upd_same, po5, by rw [zp_append, ez]; exact prs_ring m3, by rw [List.length_append]; simp; omega, by omega, m32⟩
      · rintro _ rfl
        exact nN _ _ ⟨L, n, zs, v4, rfl, g⟩
      · intro Y N' yy nn
        exact ⟨_, rfl, rfl, _, rfl, ite2 (fun e => yy _ rfl) (fun e => nn _ rfl)⟩
    clear g
    rintro σ Hc ⟨L, n, zs, v4, rfl, g⟩
    refine seq_k (fun σ Hc => ∃ L n zs v4, σ = [some (.ref p), some (.int way), some (.int n), some (.ref L), v4] ∧ NetG p H L n zs Hc) ?_ ?_
    rotate_left
    · intro N nN
      refine if_k (fun Hk => Hc = Hk) (fun Hk => Hc = Hk) ?_ ?_ ?_
      · rintro _ rfl
        refine ⟨_, rfl, _, _, rfl, rfl, by show (0 : Int) < 8; decide, _, _, rfl, rfl, ?_⟩
        have m2 : 2 ≤ (2 : Int) + n % 8 := by have := Int.emod_nonneg n (show (8 : Int) ≠ 0 by decide); omega
        have m9 : (2 : Int) + n % 8 ≤ 9 := by have := Int.emod_lt_of_pos n (show (0 : Int) < 8 by decide); omega
        dsimp only
        revert m2 m9
        generalize (2 : Int) + n % 8 = m
        intro m2 m9
        refine ⟨by show 0 ≤ sizeLine; decide, fun D0 hD0 => ?_⟩
        refine ⟨_, rfl, m, rfl, by omega, by omega, for_range (lo := 0) (n := m.toNat) (fun i σ Hd => (∃ L zs v4, σ = [some (.ref p), some (.int way), some (.int m), some (.ref L), v4] ∧ Hc L = none ∧ Hd L = some (.lst (zr zs)) ∧ PO Hd zs ∧ Prs i (zp zs) ∧ zs.length ≤ 9 * i) ∧ Same Hc Hd) ?_ ?_ ?_⟩
        · exact ⟨⟨D0, [], _, rfl, hD0, upd_same, PO.nil, ⟨List.nodup_nil, fun p hp => (nomatch hp)⟩, by simp⟩, same_new hD0⟩
        · rintro i σ Hd hi ⟨⟨L5, zs5, v5, rfl, hL5, hL5', po5, pr5, zl5⟩, sm5⟩
          rw [Int.zero_add]
          refine ⟨_, rfl, _, rfl, i, rfl, by omega, by omega, fun D hD => ?_⟩
          rw [Int.toNat_natCast]
          refine comp_mkR (lo := 0) (fun o => ((o : Int), (i : Int))) (fun σ => ∃ u, σ = [u, some (.int i)]) hD (by omega) ⟨_, rfl⟩ ?_ ?_
          · rintro j σ H4 R Kf hj ⟨u, rfl⟩ sm4 kt
            rw [Int.zero_add]
            exact ⟨_, rfl, _, rfl, by show 2 ≤ sizeLine; decide, fun t ht => kt _ t ⟨_, rfl⟩ ht⟩
          · rintro zs2 H4 sm4 hD4 po4 ez
            have hl2 : zs2.length = i := by rw [← zp_len, ez, List.length_map, List.length_range]
            refine ⟨L5, D, _, _, rfl, rfl, sm4 _ _ hL5', hD4, by rw [zr_len, zr_len]; exact Nat.le_trans (show _ ≤ 200 by omega) (by decide), fun r hr' => ?_⟩
            refine ⟨⟨r, zs5 ++ zs2, _, rfl, (sm5.trans sm4).free hr', by rw [upd_same, zr_append], ((po5.same sm4).append po4).putN hr', by rw [zp_append, ez]; exact pr5.star, by rw [List.length_append]; omega⟩, (sm5.trans sm4).trans (same_new hr')⟩
        · rintro σ Hd ⟨⟨L5, zs5, v5, rfl, hL5, hL5', po5, pr5, zl5⟩, sm5⟩
          have em : ((m.toNat : Nat) : Int) = m := by omega
          rw [em] at pr5
          exact nN _ _ ⟨L5, m, zs5, v5, rfl, g.se.trans (SameE.of sm5), g.pt.same sm5, g.se.free g.pt.full hL5, hL5', po5, pr5, by omega, by omega, by omega⟩
      · rintro _ rfl
        exact nN _ _ ⟨L, n, zs, v4, rfl, g⟩
      · intro Y N' yy nn
        exact ⟨_, rfl, rfl, _, rfl, ite2 (fun e => yy _ rfl) (fun e => nn _ rfl)⟩
    clear g
    rintro σ Hc ⟨L, n, zs, v4, rfl, g⟩
    refine seq_k (fun σ Hc => ∃ L n zs v4, σ = [some (.ref p), some (.int way), some (.int n), some (.ref L), v4] ∧ NetG p H L n zs Hc) ?_ ?_
    rotate_left
    · intro N nN
      refine if_k (fun Hk => Same Hc Hk) (fun Hk => Same Hc Hk) ?_ ?_ ?_
      · intro Hk smk
        refine ⟨_, rfl, p, rfl, g.pt.same smk, fun rs ss H4 se4 pt4 hrs hrs4 sd => ?_⟩
        refine ⟨rs, ss, rfl, hrs4, sd, fun r L5 n5 zs5 H5 sm5 hr5 hL5 hL5n po5 pr5 zl5 n15 n325 => ?_⟩
        refine ⟨_, _, rfl, SqT.of hr5, rfl, _, _, rfl, _, _, rfl, rfl, ?_⟩
        have sk := (g.se.trans (SameE.of smk)).trans se4
        exact nN _ _ ⟨L5, n5, zs5, v4, rfl, sk.trans (SameE.of sm5), pt4.same sm5, sk.free pt4.full hL5n, hL5, po5, pr5, zl5, n15, n325⟩
      · intro Hk smk
        exact nN _ _ ⟨L, n, zs, v4, rfl, g.same smk⟩
      · intro Y N' yy nn
        refine ⟨_, rfl, by show 2 ≤ sizeLine; decide, fun t ht => ⟨t, _, rfl, .inr (SqT.of upd_same), rfl, rfl, _, rfl, ?_⟩⟩
        exact ite2 (fun e => yy _ (same_new ht)) (fun e => nn _ (same_new ht))
    clear g
    rintro σ Hc ⟨L, n, zs, v4, rfl, g⟩
    refine ⟨_, rfl, _, rfl, _, rfl, L, rfl, ⟨_, SqL.of g.at_⟩, fun D hD => ?_⟩
    have zl := g.le
    refine comp_mkP (K := K) (zs0 := zs) sw (fun σ => ∃ u v, σ = [u, v]) g.at_ g.po hD (by omega) ⟨_, _, rfl⟩ ?_ ?_
    · rintro z σ H4 R Kf hz ⟨u, v, rfl⟩ hz4 kt
      refine ⟨_, _, rfl, SqT.of hz4, rfl, _, _, rfl, _, _, rfl, rfl, ?_⟩
      exact ⟨_, rfl, _, rfl, by show 2 ≤ sizeLine; decide, fun t ht => kt _ t ⟨_, _, rfl⟩ ht⟩
    · rintro zs2 H4 sm4 hD4 po4 ez
      have hl2 : zs2.length = zs.length := by rw [← zp_len, ez, List.length_map, zp_len]
      refine ⟨L, D, _, _, rfl, rfl, sm4 _ _ g.at_, hD4, by rw [zr_len, zr_len]; exact Nat.le_trans (show _ ≤ 1000 by omega) (by decide), fun r hr' => ?_⟩
      dsimp only [tNil]
      refine sort_of (zs := zs ++ zs2) (by rw [upd_same, zr_append]) (((g.po.same sm4).append po4).putN hr') (by rw [List.length_append]; omega) ?_
      intro D3 zs3 hD3 pm
      refine ⟨by show 2 ≤ sizeLine; decide, fun u hu' => ?_⟩
      have sm5 : Same Hc (upd (upd (upd H4 r (.lst (zr zs ++ zr zs2))) D3 (.lst (zr zs3))) u (.tup [.int n, .ref D3])) := ((sm4.trans (same_new hr')).trans (same_new hD3)).trans (same_new hu')
      refine q u D3 n zs3 _ (g.se.trans (SameE.of sm5)) (g.pt.same sm5) upd_same (g.se.free g.pt.full ((sm4.trans (same_new hr')).free hD3)) (same_new hu' _ _ upd_same) ?_ ?_ (by rw [pm.length_eq, List.length_append]; omega) g.n1 g.n32
      · intro z hz
        exact same_new hu' _ _ (same_new hD3 _ _ ((((g.po.same sm4).append po4).putN hr') z (pm.mem_iff.mp hz)))
      · refine Ties.perm ?_ (perm_zp pm)
        rw [zp_append, ez]
        exact g.pr.both
end
end K51

set_option maxHeartbeats 1500000
namespace K51
open PySem L2
abbrev sOuts : Stmt := top 15
abbrev sHomes : Stmt := top 16
theorem nbOOHM : (["_law_one", "_law_other", "_law_house", "_law_many"] : List Str).Nodup := by decide +kernel
theorem nbSHM : (["_law_step", "_law_house", "_law_many"] : List Str).Nodup := by decide +kernel
theorem nbKPS : (["_law_k", "_law_pot_here", "_law_span"] : List Str).Nodup := by decide +kernel
/-- where the ties out of a house lead -/
def outOf (T : List (Int × Int)) (h : Int) : List Int := (T.filter fun p => p.1 == h).map (·.2)
theorem outOf_len {T : List (Int × Int)} {h : Int} : (outOf T h).length = (T.map (·.1)).count h := by
  unfold outOf
  rw [List.length_map, count_fst, List.countP_eq_length_filter]
theorem outOf_mem {T : List (Int × Int)} {h o : Int} : o ∈ outOf T h ↔ (h, o) ∈ T := by
  unfold outOf
  rw [List.mem_map]
  constructor
  · rintro ⟨⟨a, b⟩, hp, rfl⟩
    obtain ⟨h1, h2⟩ := List.mem_filter.mp hp
    have : a = h := by simpa using h2
    rw [← this]; exact h1
  · intro hp
    exact ⟨(h, o), List.mem_filter.mpr ⟨hp, by simp⟩, rfl⟩
theorem outOf_nodup {n : Int} {T : List (Int × Int)} {h : Int} (t : Ties n T) : (outOf T h).Nodup := by
  unfold outOf
  refine nodup_map' (List.Pairwise.filter _ t.nd) fun x hx y hy e => ?_
  have h1 : x.1 = h := by simpa using (List.mem_filter.mp hx).2
  have h2 : y.1 = h := by simpa using (List.mem_filter.mp hy).2
  exact Prod.ext (h1.trans h2.symm) e
theorem len_le_range {n : Nat} {xs : List Int} (nd : xs.Nodup) (h : ∀ x ∈ xs, 0 ≤ x ∧ x < n) : xs.length ≤ n := by
  have := sub_countP (fun _ => true) (a := xs) (b := (List.range n).map fun (i : Nat) => (i : Int)) nd fun x hx _ => by
    have := h x hx
    exact List.mem_map.mpr ⟨x.toNat, List.mem_range.mpr (by omega), by omega⟩
  simp only [List.countP_true, List.length_map, List.length_range] at this
  exact this
theorem outOf_le {n : Int} {T : List (Int × Int)} {h : Int} (t : Ties n T) (n32 : n ≤ 32) : (outOf T h).length ≤ 32 := by
  refine len_le_range (outOf_nodup (h := h) t) fun x hx => ?_
  have := (t.rg _ (outOf_mem.mp hx)).2
  dsimp only at this
  omega
structure OutsAt (p : Addr) (H : Hp) (O : Addr) (as : List Addr) (n : Nat) (T : List (Int × Int)) : Prop where
  at_ : H O = some (.lst (as.map V.ref))
  len : as.length = n
  rows : ∀ h, h < n → ∃ js, H (as.getD h 0) = some (.lst (IV js)) ∧ js.Perm (outOf T h)
  np : O ≠ p
  nps : ∀ h, h < n → as.getD h 0 ≠ p
theorem OutsAt.sameE {p : Addr} {H H' : Hp} {O : Addr} {as : List Addr} {n : Nat} {T : List (Int × Int)} (g : OutsAt p H O as n T) (s : SameE p H H') : OutsAt p H' O as n T :=
  ⟨s _ _ g.at_ g.np, g.len, fun h hh => let ⟨js, e, r⟩ := g.rows h hh; ⟨js, s _ _ e (g.nps h hh), r⟩, g.np, g.nps⟩
theorem OutsAt.same {p : Addr} {H H' : Hp} {O : Addr} {as : List Addr} {n : Nat} {T : List (Int × Int)} (g : OutsAt p H O as n T) (s : Same H H') : OutsAt p H' O as n T := g.sameE (SameE.of s)
theorem comp_intL {K : PySem.W.Frag} {a D : Addr} {ns : List Int} {g : TG} {tt : TT} {te : TE} {fin : Hp → Prop} {σB : St} {H0 : Hp} (F : Int → Int) (shape : St → Prop) (ha : H0 a = some (.lst (IV ns))) (hD : H0 D = none) (hn : ns.length ≤ 100000) (h0 : shape σB)
    (hs : ∀ z σ H (R : V → St → Hp → Prop) (Kf : St → Hp → Prop), z ∈ ns → shape σ → (∀ σ2, shape σ2 → R (.int (F z)) σ2 H) → g (.int z) σ H fun σ2 H2 => tt σ2 H2 fun b H3 => if b = true then te σ2 H3 fun v H4 => R v σ2 H4 else Kf σ2 H3)
    (hd : ∀ H, Same H0 H → H D = some (.lst (IV (ns.map F))) → fin H) : CompW (Itl K a) g tt te D fin σB (upd H0 D (.lst [])) := by
  refine comp_list (xs := IV ns) (fun i ys σ H => shape σ ∧ Same H0 H ∧ H D = some (.lst ys) ∧ ys = IV ((ns.take i).map F)) ⟨h0, same_new hD, upd_same, rfl⟩ (fun i ys σ H _ z => SqL.of (z.2.1 _ _ ha)) ?_ ?_
  · rintro i x ys σ H Kt Kf hx ⟨sh, sm, hDl, rfl⟩ kt kf
    rw [List.getElem?_map] at hx
    cases e : ns[i]? with
    | none => rw [e] at hx; cases hx
    | some z =>
      rw [e] at hx
      obtain rfl : V.int z = x := Option.some.inj hx
      have hi : i < ns.length := (List.getElem?_eq_some_iff.mp e).1
      refine hs z σ H Kt Kf (List.mem_of_getElem? e) sh (fun σ2 sh2 => ?_)
      refine kt _ _ _ hDl (by rw [List.length_map, List.length_map, List.length_take]; exact Nat.lt_of_lt_of_le (show _ < 100001 by omega) (by decide)) ⟨sh2, same_put sm hD, upd_same, ?_⟩
      rw [iv_snoc, List.take_add_one, e, Option.toList_some, List.map_append]; rfl
  · rintro ys σ H ⟨_, sm, hDl, rfl⟩
    rw [List.length_map, List.take_length] at hDl
    exact hd H sm hDl
theorem mod_back {h o n : Int} (o0 : 0 ≤ o) (on : o < n) : (h + (o - h) % n) % n = o := by
  rw [Int.add_emod, Int.emod_emod_of_dvd _ (Int.dvd_refl n), ← Int.add_emod]
  have : h + (o - h) = o := by omega
  rw [this, Int.emod_eq_of_lt o0 on]
section
variable {P : Program} {w : World} {K : PySem.W.Frag} {mg : Str → Option Value} {base : Heap}
theorem scGround : FnScope ["_law_pot_here", "_law_waits", "_law_many", "_law_pairs"] ["_law_pot_here", "_law_waits"] (defScope sGround) := ⟨rfl, rfl, rfl, by decide +kernel, rfl, by decide +kernel, by decide +kernel⟩
def spGround : Sp := fun vs H Q _ => ∃ (p : Addr) (wt : Bool), vs = [.ref p, .bl wt] ∧ PotAt H p ∧ ∀ (r L : Addr) (n : Int) (zs : Zs) (H' : Hp), SameE p H H' → PotAt H' p → H' r = some (.tup [.int n, .ref L]) → H L = none → H' L = some (.lst (zr zs)) → PO H' zs → Ties n (zp zs) → zs.length ≤ 400 → 1 ≤ n → n ≤ 32 → Q (.ref r) H'
theorem ok_ground {f : Addr} {fd : FuncData} (F : Fun K "_law_ground" "_law_ground" sGround f fd) (B : Bl mg) (SD : Cal P w K mg base CX0 2 "_law_sides" ["_law_pot_here"] spSides) (BX : Cal P w K mg base CX0 1 "_law_box_pairs" ["_law_sides_here"] spBox)
    (NT : Cal P w K mg base CX0 4 "_law_net" ["_law_pot_here"] spNet) : FnOk P w K mg base CX0 5 f fd ["_law_pot_here", "_law_waits"] spGround := by
  refine F.ok scGround (fun vs H Q E h => ?_) (fun cdv A outer s H vs Q E hr h => ?_)
  · obtain ⟨p, wt, rfl, _⟩ := h
    rfl
  · obtain ⟨p, wt, rfl, hp, q⟩ := h
    have hr1 : Room 1 (A.deeper (PyProof.Rows.envOfC "_law_ground" (defScope sGround) s.heap.objs.size f cdv)) := hr.mono (by decide)
    have hr2 : Room 2 (A.deeper (PyProof.Rows.envOfC "_law_ground" (defScope sGround) s.heap.objs.size f cdv)) := hr.mono (by decide)
    refine' ⟨_, pss_cons (ps_if (pt_not (pt_val (pv 1))) (pss_one (ps_ret (pe_cal NT hr pass0 (pa_cons (pv 0) pa_nil)))) pss_nil)
      (pss_cons (ps_asg (pe_cal BX hr1 pass0 (pa_cons (pe_cal SD hr2 pass0 (pa_cons (pv 0) pa_nil)) pa_nil)) (pg_tup (n := 2) rfl (pgs_cons (pg_name (i := 2) scGround.nd rfl (Or.inl rfl)) (pgs_cons (pg_name (i := 3) scGround.nd rfl (Or.inl rfl)) pgs_nil))))
      (pss_one (ps_ret (pe_tup (pa_cons (pv 2) (pa_cons (pe_callB call_sortA (by rfl) B.sorted PyProof.Rows.boot_sorted (pa_cons (pe_op op_cat (pv 3) ?c3) pa_nil)) pa_nil)))))), ?_⟩
    case c3 =>
      refine' pe_comp (g := gTup K 2 (gCons (gName 0) (gCons (gName 1) gNil))) (te := tTup (tCons (tVar 1) (tCons (tVar 0) tNil))) (NB := ["_law_one", "_law_other"]) (src := [none, none]) (blk_of (by kernel_rfl)) rfl (pi_list (pv 3)) ?g ?t ?e
      case g => exact fun cl C s₃ H₃ fp => pg_tup (n := 2) rfl (pgs_cons (pg_name (i := 0) nbOO rfl (Or.inl rfl) (Or.inr rfl)) (pgs_cons (pg_name (i := 1) nbOO rfl (Or.inl rfl) (Or.inr rfl)) pgs_nil))
      case t => exact fun cl C s₃ H₃ fp => pts_nil
      case e => exact fun cl C s₃ H₃ fp => pe_tup (pa_cons (pv 1) (pa_cons (pv 0) pa_nil))
    refine seq_k (fun σ Hc => σ = [some (.ref p), some (.bl wt), none, none] ∧ H = Hc) ?_ ?_
    rotate_left
    · intro N nN
      refine if_k (fun Hk => H = Hk) (fun Hk => H = Hk) ?_ ?_ ?_
      · rintro _ rfl
        exact ⟨_, rfl, p, rfl, hp, fun r L n zs H' h1 h2 h3 h4 h5 h6 h7 h8 h9 h10 => q r L n zs H' h1 h2 h3 h4 h5 h6 h7 h8 h9 h10⟩
      · rintro _ rfl
        exact nN _ _ ⟨rfl, rfl⟩
      · intro Y N' yy nn
        exact ⟨_, rfl, _, rfl, ite2 (fun e => yy _ rfl) (fun e => nn _ rfl)⟩
    rintro σ _ ⟨rfl, rfl⟩
    refine ⟨_, rfl, p, rfl, hp, fun rs ss H4 se4 pt4 hrs hrs4 sd => ?_⟩
    refine ⟨rs, ss, rfl, hrs4, sd, fun r0 L n zs Hc sm5 hr5 hL5 hL5n po5 pr5 zl n15 n325 => ?_⟩
    refine ⟨_, _, rfl, SqT.of hr5, rfl, _, _, rfl, _, _, rfl, rfl, ?_⟩
    have g : NetG p H L n zs Hc := ⟨se4.trans (SameE.of sm5), pt4.same sm5, se4.free pt4.full hL5n, hL5, po5, pr5, zl, n15, n325⟩
    refine ⟨_, rfl, _, rfl, _, rfl, L, rfl, ⟨_, SqL.of g.at_⟩, fun D hD => ?_⟩
    refine comp_mkP (K := K) (zs0 := zs) sw (fun σ => ∃ u v, σ = [u, v]) g.at_ g.po hD (by omega) ⟨_, _, rfl⟩ ?_ ?_
    · rintro z σ H4 R Kf hz ⟨u, v, rfl⟩ hz4 kt
      refine ⟨_, _, rfl, SqT.of hz4, rfl, _, _, rfl, _, _, rfl, rfl, ?_⟩
      exact ⟨_, rfl, _, rfl, by show 2 ≤ sizeLine; decide, fun t ht => kt _ t ⟨_, _, rfl⟩ ht⟩
    · rintro zs2 H4 sm4 hD4 po4 ez
      have hl2 : zs2.length = zs.length := by rw [← zp_len, ez, List.length_map, zp_len]
      refine ⟨L, D, _, _, rfl, rfl, sm4 _ _ g.at_, hD4, by rw [zr_len, zr_len]; exact Nat.le_trans (show _ ≤ 1000 by omega) (by decide), fun r hr' => ?_⟩
      dsimp only [tNil]
      refine sort_of (zs := zs ++ zs2) (by rw [upd_same, zr_append]) (((g.po.same sm4).append po4).putN hr') (by rw [List.length_append]; omega) ?_
      intro D3 zs3 hD3 pm
      refine ⟨by show 2 ≤ sizeLine; decide, fun u hu' => ?_⟩
      have sm5 : Same Hc (upd (upd (upd H4 r (.lst (zr zs ++ zr zs2))) D3 (.lst (zr zs3))) u (.tup [.int n, .ref D3])) := ((sm4.trans (same_new hr')).trans (same_new hD3)).trans (same_new hu')
      refine q u D3 n zs3 _ (g.se.trans (SameE.of sm5)) (g.pt.same sm5) upd_same (g.se.free g.pt.full ((sm4.trans (same_new hr')).free hD3)) (same_new hu' _ _ upd_same) ?_ ?_ (by rw [pm.length_eq, List.length_append]; omega) g.n1 g.n32
      · intro z hz
        exact same_new hu' _ _ (same_new hD3 _ _ ((((g.po.same sm4).append po4).putN hr') z (pm.mem_iff.mp hz)))
      · refine Ties.perm ?_ (perm_zp pm)
        rw [zp_append, ez]
        exact g.pr.both
theorem scOuts : FnScope ["_law_many", "_law_ties", "_law_found", "_law_house", "_law_some"] ["_law_many", "_law_ties"] (defScope sOuts) := ⟨rfl, rfl, rfl, by decide +kernel, rfl, by decide +kernel, by decide +kernel⟩
def spOuts : Sp := fun vs H Q _ => ∃ (l : Addr) (n : Nat) (zs : Zs), vs = [.int n, .ref l] ∧ H l = some (.lst (zr zs)) ∧ PO H zs ∧ Ties n (zp zs) ∧ zs.length ≤ 400 ∧ 1 ≤ n ∧ n ≤ 32 ∧ ∀ (O : Addr) (as : List Addr) (H' : Hp), Same H H' → H O = none → (∀ h, h < n → H (as.getD h 0) = none) → H' O = some (.lst (as.map V.ref)) → as.length = n → (∀ h, h < n → ∃ js, H' (as.getD h 0) = some (.lst (IV js)) ∧ js.Perm (outOf (zp zs) h)) → Q (.ref O) H'
theorem ok_outs {f : Addr} {fd : FuncData} (F : Fun K "_law_outs" "_law_outs" sOuts f fd) (B : Bl mg) : FnOk P w K mg base CX0 1 f fd ["_law_many", "_law_ties"] spOuts := by
  refine F.ok scOuts (fun vs H Q E h => ?_) (fun cdv A outer s H vs Q E hr h => ?_)
  · obtain ⟨l, n, zs, rfl, _⟩ := h
    rfl
  · obtain ⟨l, n, zs, rfl, hl, po, ti, zl, n1, n32, q⟩ := h
    refine' ⟨_, pss_cons (ps_set (i := 2) scOuts.nd rfl (Or.inl rfl) (pe_lst pa_nil))
      (pss_cons (ps_for PassesOwn.never rfl (pi_range1 rfl B.range (pa_cons (pv 0) pa_nil)) (pg_name (i := 3) scOuts.nd rfl (Or.inr rfl))
        (pss_cons (ps_set (i := 4) scOuts.nd rfl (Or.inl rfl) (pe_callB call_sortI (by rfl) B.sorted PyProof.Rows.boot_sorted (pa_cons ?c1 pa_nil)))
        (pss_one (ps_expr (pe_bm PySem.F.plainAttrs_list PySem.F.slot_list_append PySem.F.type_list_append mt_append (pv 2) (pa_cons ?c2 pa_nil))))))
      (pss_one (ps_ret (pv 2)))), ?_⟩
    case c1 =>
      refine' pe_comp (g := gTup K 2 (gCons (gName 0) (gCons (gName 1) gNil))) (tt := tTest (tOp rEq (tVar 0) (tVar 2))) (te := tOp (rI (fun _ j => 0 < j) fun i j => .int (i % j)) (tOp (rI0 fun i j => .int (i - j)) (tVar 1) (tVar 2)) (tVar 3)) (NB := ["_law_one", "_law_other", "_law_house", "_law_many"]) (src := [none, none, some 3, some 0]) (blk_of (by kernel_rfl)) rfl (pi_list (pv 1)) ?g ?t ?e
      case g => exact fun cl C s₃ H₃ fp => pg_tup (n := 2) rfl (pgs_cons (pg_name (i := 0) nbOOHM rfl (Or.inl rfl) (Or.inr rfl)) (pgs_cons (pg_name (i := 1) nbOOHM rfl (Or.inl rfl) (Or.inr rfl)) pgs_nil))
      case t => exact fun cl C s₃ H₃ fp => pts_one (pt_cmpR op_eq (pv 0) (pv 2) (nomark _))
      case e => exact fun cl C s₃ H₃ fp => pe_op op_mod (pe_op op_sub (pv 1) (pv 2)) (pv 3)
    case c2 =>
      refine' pe_comp (g := gName 0) (te := tOp (rI (fun _ j => 0 < j) fun i j => .int (i % j)) (tOp (rI0 fun i j => .int (i + j)) (tVar 1) (tVar 0)) (tVar 2)) (NB := ["_law_step", "_law_house", "_law_many"]) (src := [none, some 3, some 0]) (blk_of (by kernel_rfl)) rfl (pi_list (pv 4)) ?g ?t ?e
      case g => exact fun cl C s₃ H₃ fp => pg_name (i := 0) nbSHM rfl (Or.inl rfl) (Or.inr rfl)
      case t => exact fun cl C s₃ H₃ fp => pts_nil
      case e => exact fun cl C s₃ H₃ fp => pe_op op_mod (pe_op op_add (pv 1) (pv 0)) (pv 2)
    refine ⟨by show 0 ≤ sizeLine; decide, fun O hO => ?_⟩
    have nlO : l ≠ O := ne_of_none hl hO
    refine ⟨_, rfl, _, rfl, by omega, by omega, for_range (lo := 0) (n := n) (fun i σ H2 => (∃ v3 v4, σ = [some (.int n), some (.ref l), some (.ref O), v3, v4]) ∧ Same H H2 ∧ ∃ as : List Addr, H2 O = some (.lst (as.map V.ref)) ∧ as.length = i ∧ ∀ h, h < i → H (as.getD h 0) = none ∧ as.getD h 0 ≠ O ∧ ∃ js, H2 (as.getD h 0) = some (.lst (IV js)) ∧ js.Perm (outOf (zp zs) h)) ?_ ?_ ?_⟩
    · exact ⟨⟨_, _, rfl⟩, same_new hO, [], upd_same, rfl, fun h hh => absurd hh (by omega)⟩
    · rintro i σ H2 hi ⟨⟨v3, v4, rfl⟩, sm2, as, hO2, al, rows⟩
      rw [Int.zero_add]
      have hl2 := sm2 _ _ hl
      refine ⟨_, rfl, l, rfl, ⟨_, SqL.of hl2⟩, fun D hD => ?_⟩
      refine comp_list (K := K) (a := l) (xs := zr zs) (fun c ys σ H3 => (∃ u v, σ = [u, v, some (.int i), some (.int n)]) ∧ Same H2 H3 ∧ H3 D = some (.lst ys) ∧ ys = IV ((outOf ((zp zs).take c) i).map fun o => (o - i) % n)) ⟨⟨_, _, rfl⟩, same_new hD, upd_same, rfl⟩ (fun c ys σ H3 _ z => SqL.of (z.2.1 _ _ hl2)) ?_ ?_
      · rintro c x ys σ H3 Kt Kf hx ⟨⟨u, v, rfl⟩, sm3, hD3, rfl⟩ kt kf
        obtain ⟨z, hz, rfl⟩ := zr_get hx
        have hc : c < zs.length := (List.getElem?_eq_some_iff.mp hz).1
        have hzm : z ∈ zs := List.mem_of_getElem? hz
        have e2 : (zp zs)[c]? = some z.2 := by unfold zp; rw [List.getElem?_map, hz]; rfl
        refine ⟨_, _, rfl, SqT.of (sm3 _ _ (sm2 _ _ (po z hzm))), rfl, _, _, rfl, _, _, rfl, rfl, ?_⟩
        refine ⟨_, rfl, _, rfl, rfl, _, rfl, ?_⟩
        have et : (zp zs).take (c + 1) = (zp zs).take c ++ [z.2] := by rw [List.take_add_one, e2, Option.toList_some]
        refine ite2 (fun e => ?_) (fun e => ?_)
        · have e' : z.2.1 = (i : Int) := V.int.inj (of_decide_eq_true e)
          refine ⟨_, rfl, _, rfl, _, _, rfl, rfl, _, rfl, _, _, rfl, rfl, by show (0 : Int) < (n : Int); omega, kt _ _ _ hD3 ?_ ⟨⟨_, _, rfl⟩, same_put sm3 hD, upd_same, ?_⟩⟩
          · have h1 : (outOf ((zp zs).take c) i).length ≤ c := by
              unfold outOf
              rw [List.length_map]
              exact Nat.le_trans (List.length_filter_le _ _) (by rw [List.length_take]; omega)
            rw [List.length_map, List.length_map]
            exact Nat.lt_of_lt_of_le (show _ < 1000 by omega) (by decide)
          · rw [et, iv_snoc]
            unfold outOf
            rw [List.filter_append, List.filter_cons_of_pos (p := fun p : Int × Int => p.1 == (i : Int)) (by simpa using e'), List.map_append, List.map_append]
            rfl
        · have e' : ¬ z.2.1 = (i : Int) := fun y => e (decide_eq_true (by rw [y]))
          refine kf _ _ ⟨⟨_, _, rfl⟩, sm3, hD3, ?_⟩
          rw [et]
          unfold outOf
          rw [List.filter_append, List.filter_cons_of_neg (p := fun p : Int × Int => p.1 == (i : Int)) (by simpa using e'), List.filter_nil, List.append_nil]
      · rintro ys σ H3 ⟨_, sm3, hD3, rfl⟩
        rw [zr_len, ← zp_len, List.take_length] at hD3
        have ol := outOf_le (h := (i : Int)) ti (by omega)
        refine ⟨D, _, rfl, SqL.of hD3, by rw [List.length_map]; omega, fun S ns' hS pm => ?_⟩
        have sm4 : Same H2 (upd H3 S (.lst (IV ns'))) := sm3.trans (same_new hS)
        have hS4 : (upd H3 S (.lst (IV ns'))) S = some (.lst (IV ns')) := upd_same
        dsimp only [gName]
        revert sm4 hS4
        generalize upd H3 S (.lst (IV ns')) = H4
        intro sm4 hS4
        have nl : ns'.length ≤ 32 := by rw [pm.length_eq, List.length_map]; exact ol
        refine ⟨_, rfl, .inl ⟨rfl, _, SqL.of (sm4 _ _ hO2)⟩, _, rfl, S, rfl, ⟨_, SqL.of hS4⟩, fun C hC => ?_⟩
        refine comp_intL (K := K) (ns := ns') (fun st => ((i : Int) + st) % n) (fun σ => ∃ u, σ = [u, some (.int i), some (.int n)]) hS4 hC (by omega) ⟨_, rfl⟩ ?_ ?_
        · rintro z σ H5 R Kf hz ⟨u, rfl⟩ kt
          exact ⟨_, rfl, _, rfl, _, _, rfl, rfl, _, rfl, _, _, rfl, rfl, by show (0 : Int) < (n : Int); omega, kt _ ⟨_, rfl⟩⟩
        · intro H5 sm5 hC5
          have hO5 := sm5 _ _ (sm4 _ _ hO2)
          have nCO : C ≠ O := (ne_of_none (sm4 _ _ hO2) hC).symm
          refine ⟨O, _, _, rfl, rfl, hO5, by rw [List.length_map, al]; exact Nat.lt_of_lt_of_le (show i < 33 by omega) (by decide), ?_⟩
          refine ⟨⟨_, _, rfl⟩, same_put ((sm2.trans sm4).trans sm5) hO, as ++ [C], by rw [upd_same, List.map_append]; rfl, by rw [List.length_append, al]; rfl, fun h hh => ?_⟩
          rw [getD_snoc al]
          by_cases eh : h = i
          · subst eh
            rw [if_pos rfl]
            refine ⟨(sm2.trans sm4).free hC, nCO, _, by rw [upd_ne nCO]; exact hC5, ?_⟩
            have p1 := pm.map (fun st => ((h : Int) + st) % n)
            rw [List.map_map] at p1
            refine p1.trans (.of_eq ?_)
            conv => rhs; rw [← List.map_id (outOf (zp zs) h)]
            refine List.map_congr_left fun o ho => ?_
            have := (ti.rg _ (outOf_mem.mp ho)).2
            exact mod_back this.1 this.2
          · rw [if_neg eh]
            obtain ⟨a1, a2, js, a3, a4⟩ := rows h (by omega)
            exact ⟨a1, a2, js, by rw [upd_ne a2]; exact sm5 _ _ (sm4 _ _ a3), a4⟩
    · rintro σ H2 ⟨⟨v3, v4, rfl⟩, sm2, as, hO2, al, rows⟩
      exact ⟨_, rfl, q O as H2 sm2 hO (fun h hh => (rows h hh).1) hO2 al (fun h hh => (rows h hh).2.2)⟩
theorem scHomes : FnScope ["_law_pot_here", "_law_many", "_law_letters", "_law_span"] ["_law_pot_here", "_law_many", "_law_letters"] (defScope sHomes) := ⟨rfl, rfl, rfl, by decide +kernel, rfl, by decide +kernel, by decide +kernel⟩
def spHomes : Sp := fun vs H Q _ => ∃ (p : Addr) (n m : Int), vs = [.ref p, .int n, .int m] ∧ PotAt H p ∧ 1 ≤ n ∧ n ≤ 32 ∧ 0 ≤ m ∧ m ≤ 16 ∧ ∀ (r : Addr) (hs : List Int) (H' : Hp), SameE p H H' → PotAt H' p → H r = none → H' r = some (.tup (IV hs)) → hs.length ≤ 16 → Q (.ref r) H'
theorem ok_homes {f : Addr} {fd : FuncData} (F : Fun K "_law_homes" "_law_homes" sHomes f fd) (B : Bl mg) (T : Cal P w K mg base CX0 1 "_law_take" ["_law_pot_here", "_law_many"] spTake) : FnOk P w K mg base CX0 2 f fd ["_law_pot_here", "_law_many", "_law_letters"] spHomes := by
  refine F.ok scHomes (fun vs H Q E h => ?_) (fun cdv A outer s H vs Q E hr h => ?_)
  · obtain ⟨p, n, m, rfl, _⟩ := h
    rfl
  · obtain ⟨p, n, m, rfl, hp, n1, n32, m0, m16, q⟩ := h
    refine' ⟨_, pss_cons (ps_set (i := 3) scHomes.nd rfl (Or.inr rfl) (pe_callB (call_min2 rfl) (by rfl) B.min PyProof.Rows.boot_min (pa_cons (pv 1) (pa_cons (pe_ix ix_list (pe_lst (pa_cons pe_int (pa_cons pe_int pa_nil))) (pe_cal T hr pass0 (pa_cons (pv 0) (pa_cons pe_int pa_nil))) (fun _ _ => rfl)) pa_nil))))
      (pss_one (ps_ret (pe_callTy call_tuple_of (by rfl) B.tup PyProof.Rows.boot_tuple (pa_cons ?c1 pa_nil)))), ?_⟩
    case c1 =>
      refine' pe_comp (g := gName 0) (te := tCall spTake [] (fun _ _ _ => False) (tCons (tVar 1) (tCons (tVar 2) tNil))) (NB := ["_law_k", "_law_pot_here", "_law_span"]) (src := [none, some 0, some 3]) (blk_of (by kernel_rfl)) rfl (pi_range1 rfl B.range (pa_cons (pv 2) pa_nil)) ?g ?t ?e
      case g => exact fun cl C s₃ H₃ fp => pg_name (i := 0) nbKPS rfl (Or.inl rfl) (Or.inr rfl)
      case t => exact fun cl C s₃ H₃ fp => pts_nil
      case e => exact fun cl C s₃ H₃ fp => pe_cal T hr pass0 (pa_cons (pv 1) (pa_cons (pv 2) pa_nil))
    refine ⟨_, rfl, by show 2 ≤ sizeLine; decide, fun L0 hL0 => ⟨_, rfl, p, _, rfl, by decide, by decide, hp.same (same_new hL0), fun d H2 d0 d2 se2 pt2 => ?_⟩⟩
    have nLp : L0 ≠ p := hp.ne hL0
    obtain ⟨dv, hd1, hd2, hdv⟩ : ∃ dv : Int, 1 ≤ dv ∧ dv ≤ 32 ∧ atI [V.int 32, V.int 3] d = some (.int dv) := by
      by_cases e : d = 0
      · subst e; exact ⟨32, by decide, by decide, atI_nat (j := 0) rfl⟩
      · have : d = 1 := by omega
        subst this; exact ⟨3, by decide, by decide, atI_nat (j := 1) rfl⟩
    refine ⟨L0, _, _, _, rfl, rfl, SqL.of (se2 _ _ upd_same nLp), hdv, _, _, rfl, ?_⟩
    have s1 : 1 ≤ (if dv < n then dv else n) := by split <;> omega
    have s2 : (if dv < n then dv else n) ≤ 32 := by split <;> omega
    dsimp only [gName]
    revert s1 s2
    generalize (if dv < n then dv else n) = sp
    intro s1 s2
    have se2' : SameE p H H2 := (SameE.of (same_new hL0)).trans se2
    refine ⟨_, rfl, m, rfl, by omega, by omega, fun D hD => ?_⟩
    have hD0 : H D = none := se2'.free pt2.full hD
    have nDp : D ≠ p := hp.ne hD0
    refine comp_range (lo := 0) (n := m.toNat) (fun i ys σ Hc => (∃ u, σ = [u, some (.ref p), some (.int sp)]) ∧ SameE p H Hc ∧ PotAt Hc p ∧ Hc D = some (.lst ys) ∧ ∃ js, ys = IV js ∧ js.length = i)
      ⟨⟨_, rfl⟩, sameE_put se2' hD0, pt2.put nDp.symm, upd_same, [], rfl, rfl⟩ ?_ ?_
    · rintro i ys σ Hc Kt Kf hi ⟨⟨u, rfl⟩, se, pt, hDc, js, rfl, jl⟩ kt kf
      refine ⟨_, rfl, _, rfl, p, _, rfl, by omega, by omega, pt, fun e He e0 e1 see pte => ?_⟩
      exact kt _ _ _ (see _ _ hDc nDp) (by rw [List.length_map, jl]; exact Nat.lt_of_lt_of_le (show i < 33 by omega) (by decide)) ⟨⟨_, rfl⟩, sameE_put (se.trans see) hD0, pte.put nDp.symm, upd_same, js ++ [e], iv_snoc, by rw [List.length_append, jl]; rfl⟩
    · rintro ys σ Hc ⟨_, se, pt, hDc, js, rfl, jl⟩
      refine ⟨D, _, rfl, .inl ⟨SqL.of hDc, fun r hr' => ?_⟩⟩
      exact q r js _ (se.trans (SameE.of (same_new hr'))) (pt.same (same_new hr')) (se.free pt.full hr') upd_same (by omega)
end
end K51

set_option maxHeartbeats 1500000
namespace K51
open PySem L2
abbrev sBegun : Stmt := top 17
theorem nbKHO : (["_law_k", "_law_house", "_law_outs_here"] : List Str).Nodup := by decide +kernel
theorem nbOHWSO : (["_law_other", "_law_home", "_law_waits", "_law_stand", "_law_outs_here"] : List Str).Nodup := by decide +kernel
/-! ### stands -/
def stV : Option Int → V
  | none => .non
  | some h => .int h
abbrev SV (s : List (Option Int)) : List V := s.map stV
theorem flat_sv {s : List (Option Int)} : (SV s).all flatV = true := by
  rw [List.all_eq_true]
  intro v hv
  obtain ⟨j, _, rfl⟩ := List.mem_map.mp hv
  cases j <;> rfl
theorem stV_inj {a b : Option Int} (h : stV a = stV b) : a = b := by
  cases a <;> cases b
  · rfl
  · cases h
  · cases h
  · exact congrArg some (V.int.inj h)
theorem count_sv {h : Int} : ∀ {s : List (Option Int)}, (SV s).countP (fun z => eqV z (.int h)) = s.count (some h)
  | [] => rfl
  | x :: s => by
    have ih := count_sv (h := h) (s := s)
    unfold SV at ih ⊢
    rw [List.map_cons, List.countP_cons, ih, List.count_cons]
    have e : eqV (stV x) (.int h) = (x == some h) := by
      cases x with
      | none => rfl
      | some y =>
        show (y == h) = (some y == some h)
        rw [Bool.eq_iff_iff]
        simp
    rw [e]
theorem sv_get {s : List (Option Int)} {i : Nat} {x : V} (h : (SV s)[i]? = some x) : i < s.length ∧ x = stV (s.getD i none) := by
  rw [List.getElem?_map] at h
  cases e : s[i]? with
  | none => rw [e] at h; cases h
  | some a =>
    rw [e] at h
    refine ⟨(List.getElem?_eq_some_iff.mp e).1, ?_⟩
    rw [List.getD_eq_getElem?_getD, e]
    exact (Option.some.inj h).symm
theorem sv_at {s : List (Option Int)} {i : Nat} (h : i < s.length) : atI (SV s) (i : Int) = some (stV (s.getD i none)) := by
  refine atI_nat ?_
  rw [List.getElem?_map, List.getElem?_eq_getElem h, List.getD_eq_getElem?_getD, List.getElem?_eq_getElem h]
  rfl
theorem sv_snoc {s : List (Option Int)} {o : Option Int} : SV (s ++ [o]) = SV s ++ [stV o] := by unfold SV; rw [List.map_append]; rfl
theorem scal_sv {o : Option Int} {h : Int} : scal (stV o) (.int h) = true := by cases o <;> rfl
theorem iv_get {ns : List Int} {i : Nat} {x : V} (h : (IV ns)[i]? = some x) : i < ns.length ∧ x = .int (ns.getD i 0) := by
  rw [List.getElem?_map] at h
  cases e : ns[i]? with
  | none => rw [e] at h; cases h
  | some a =>
    rw [e] at h
    refine ⟨(List.getElem?_eq_some_iff.mp e).1, ?_⟩
    rw [List.getD_eq_getElem?_getD, e]
    exact (Option.some.inj h).symm
theorem ref_at {as : List Addr} {i : Nat} (h : i < as.length) : atI (as.map V.ref) (i : Int) = some (.ref (as.getD i 0)) := by
  refine atI_nat ?_
  rw [List.getElem?_map, List.getElem?_eq_getElem h, List.getD_eq_getElem?_getD, List.getElem?_eq_getElem h]
  rfl
/-- a stand where no house holds more than it may (where none waits) -/
structure StOk (n : Nat) (T : List (Int × Int)) (wt : Bool) (st : List (Option Int)) : Prop where
  rg : ∀ h, some h ∈ st → 0 ≤ h ∧ h < n
  few : wt = false → ∀ h, st.count (some h) ≤ (outOf T h).length
theorem StOk.nil {n : Nat} {T : List (Int × Int)} {wt : Bool} : StOk n T wt [] := ⟨fun h hh => (nomatch hh), fun _ h => Nat.zero_le _⟩
theorem StOk.push {n : Nat} {T : List (Int × Int)} {wt : Bool} {st : List (Option Int)} {x : Option Int} (h : StOk n T wt st) (hx : ∀ y, x = some y → (0 ≤ y ∧ y < n) ∧ (wt = false → st.count (some y) < (outOf T y).length)) : StOk n T wt (st ++ [x]) := by
  refine ⟨fun y hy => ?_, fun hw y => ?_⟩
  · rcases List.mem_append.mp hy with z | z
    · exact h.rg y z
    · exact (hx y (List.mem_singleton.mp z).symm).1
  · rw [List.count_append, List.count_singleton]
    by_cases e : x = some y
    · have := (hx y e).2 hw
      rw [if_pos (by rw [e]; simp)]; omega
    · rw [if_neg (by simpa using e)]; exact h.few hw y
abbrev rLen (K : PySem.W.Frag) : List V → Hp → VK → Prop := fun xs H Q => ∃ p ys, xs = [V.ref p] ∧ (SqL K H p ys ∨ SqT K H p ys) ∧ Q (.int ys.length) H
section
variable {P : Program} {w : World} {K : PySem.W.Frag} {mg : Str → Option Value} {base : Heap}
theorem scBegun : FnScope ["_law_pot_here", "_law_outs_here", "_law_homes_here", "_law_waits", "_law_span", "_law_stand", "_law_home", "_law_house", "_law_some"] ["_law_pot_here", "_law_outs_here", "_law_homes_here", "_law_waits"] (defScope sBegun) := ⟨rfl, rfl, rfl, by decide +kernel, rfl, by decide +kernel, by decide +kernel⟩
def spBegun : Sp := fun vs H Q _ => ∃ (p O a : Addr) (wt : Bool) (as : List Addr) (n : Nat) (T : List (Int × Int)) (hs : List Int), vs = [.ref p, .ref O, .ref a, .bl wt] ∧ PotAt H p ∧ OutsAt p H O as n T ∧ 1 ≤ n ∧ n ≤ 32 ∧ H a = some (.tup (IV hs)) ∧ hs.length ≤ 16 ∧
  ∀ (r : Addr) (st : List (Option Int)) (H' : Hp), SameE p H H' → PotAt H' p → H r = none → H' r = some (.tup (SV st)) → st.length = hs.length → StOk n T wt st → Q (.ref r) H'
theorem ok_begun {f : Addr} {fd : FuncData} (F : Fun K "_law_begun" "_law_begun" sBegun f fd) (B : Bl mg) (T0 : Cal P w K mg base CX0 1 "_law_take" ["_law_pot_here", "_law_many"] spTake) : FnOk P w K mg base CX0 2 f fd ["_law_pot_here", "_law_outs_here", "_law_homes_here", "_law_waits"] spBegun := by
  refine F.ok scBegun (fun vs H Q E h => ?_) (fun cdv A outer s H vs Q E hr h => ?_)
  · obtain ⟨p, O, a, wt, as, n, T, hs, rfl, _⟩ := h
    rfl
  · obtain ⟨p, O, a, wt, as, n, T, hs, rfl, hp, ou, n1, n32, ha, hl, q⟩ := h
    refine' ⟨_, pss_cons (ps_set (i := 4) scBegun.nd rfl (Or.inl rfl) (pe_callB (call_min2 rfl) (by rfl) B.min PyProof.Rows.boot_min (pa_cons (pe_callB call_len_seq (by rfl) B.len PySem.boot_len (pa_cons (pv 1) pa_nil)) (pa_cons (pe_ix ix_list (pe_lst (pa_cons pe_int (pa_cons pe_int pa_nil))) (pe_cal T0 hr pass0 (pa_cons (pv 0) (pa_cons pe_int pa_nil))) (fun _ _ => rfl)) pa_nil))))
      (pss_cons (ps_set (i := 5) scBegun.nd rfl (Or.inr rfl) (pe_lst pa_nil))
      (pss_cons (ps_for PassesOwn.never rfl (pi_tup (pv 2)) (pg_name (i := 6) scBegun.nd rfl (Or.inr rfl))
        (pss_cons (ps_set (i := 7) scBegun.nd rfl (Or.inr rfl) (pe_cal T0 hr pass0 (pa_cons (pv 0) (pa_cons (pe_op op_add (pv 4) pe_int) pa_nil))))
        (pss_cons (ps_setComp (i := 8) (g := gName 0) (te := tOp (rI (fun _ j => 0 < j) fun i j => .int (i % j)) (tOp (rI0 fun i j => .int (i + j)) (tVar 1) (tVar 0)) (tCB (rLen K) (tCons (tVar 2) tNil))) (NB := ["_law_k", "_law_house", "_law_outs_here"]) (src := [none, some 7, some 1]) (blk_of (by kernel_rfl)) rfl
          (pi_range1 rfl B.range (pa_cons (pe_op op_mul (pe_callB call_len_seq (by rfl) B.len PySem.boot_len (pa_cons (pv 1) pa_nil)) (pe_callTy call_int1 (by rfl) B.int PyProof.Rows.boot_int (pa_cons (pe_cmpR op_lt (pv 7) (pv 4) (nomark _)) pa_nil))) pa_nil)) ?g ?t ?e scBegun.nd rfl rfl rfl)
        (pss_cons (ps_setComp (i := 8) (g := gName 0) (tt := tAnd (tTest (tOp rNe (tVar 0) (tVar 1))) (tOr (tB (tVar 2)) (tTest (tOp (rI0 fun i j => .bl (decide (i < j))) (tBM K "list" rCount (tVar 3) (tCons (tVar 0) tNil)) (tCB (rLen K) (tCons (tOp (rIxL K) (tVar 4) (tVar 0)) tNil)))))) (te := tVar 0) (NB := ["_law_other", "_law_home", "_law_waits", "_law_stand", "_law_outs_here"]) (src := [none, some 6, some 3, some 5, some 1]) (blk_of (by kernel_rfl)) rfl
          (pi_list (pv 8)) ?g2 ?t2 ?e2 scBegun.nd rfl rfl rfl)
        (pss_one (ps_expr (pe_bm PySem.F.plainAttrs_list PySem.F.slot_list_append PySem.F.type_list_append mt_append (pv 5) (pa_cons (pe_ix ix_list (pe_op op_cat (pv 8) (pe_lst (pa_cons pe_non pa_nil))) pe_int (fun _ _ => rfl)) pa_nil))))))))
      (pss_one (ps_ret (pe_callTy call_tuple_of (by rfl) B.tup PyProof.Rows.boot_tuple (pa_cons (pv 5) pa_nil)))))), ?_⟩
    case g => exact fun cl C s₃ H₃ fp => pg_name (i := 0) nbKHO rfl (Or.inl rfl) (Or.inr rfl)
    case t => exact fun cl C s₃ H₃ fp => pts_nil
    case e => exact fun cl C s₃ H₃ fp => pe_op op_mod (pe_op op_add (pv 1) (pv 0)) (pe_callB call_len_seq (by rfl) B.len PySem.boot_len (pa_cons (pv 2) pa_nil))
    case g2 => exact fun cl C s₃ H₃ fp => pg_name (i := 0) nbOHWSO rfl (Or.inl rfl) (Or.inr rfl)
    case t2 => exact fun cl C s₃ H₃ fp => pts_one (PW.pt (pw_and (pt_cmpR op_ne (pv 0) (pv 1) (nomark _)) (pw_and1 (PW.pt (pw_or (pt_val (pv 2)) (pw_or1 (pt_cmpR op_lt (pe_bm PySem.F.plainAttrs_list PySem.F.slot_list_count PySem.F.type_list_count mt_count (pv 3) (pa_cons (pv 0) pa_nil)) (pe_callB call_len_seq (by rfl) B.len PySem.boot_len (pa_cons (pe_ix ix_list (pv 4) (pv 0) (fun _ _ => rfl)) pa_nil)) (nomark _))))))))
    case e2 => exact fun cl C s₃ H₃ fp => pv 0
    refine ⟨_, rfl, O, _, rfl, .inl (SqL.of ou.at_), by show 2 ≤ sizeLine; decide, fun L0 hL0 => ⟨_, rfl, p, _, rfl, by decide, by decide, hp.same (same_new hL0), fun d H2 d0 d2 se2 pt2 => ?_⟩⟩
    have nLp : L0 ≠ p := hp.ne hL0
    obtain ⟨dv, hd1, hd2, hdv⟩ : ∃ dv : Int, 1 ≤ dv ∧ dv ≤ 32 ∧ atI [V.int 32, V.int 4] d = some (.int dv) := by
      by_cases e : d = 0
      · subst e; exact ⟨32, by decide, by decide, atI_nat (j := 0) rfl⟩
      · have : d = 1 := by omega
        subst this; exact ⟨4, by decide, by decide, atI_nat (j := 1) rfl⟩
    refine ⟨L0, _, _, _, rfl, rfl, SqL.of (se2 _ _ upd_same nLp), hdv, _, _, rfl, ?_⟩
    have eln : (((as.map V.ref).length : Nat) : Int) = n := by rw [List.length_map, ou.len]
    have s1 : 1 ≤ (if dv < (((as.map V.ref).length : Nat) : Int) then dv else (((as.map V.ref).length : Nat) : Int)) := by rw [eln]; split <;> omega
    have s2 : (if dv < (((as.map V.ref).length : Nat) : Int) then dv else (((as.map V.ref).length : Nat) : Int)) ≤ 32 := by rw [eln]; split <;> omega
    dsimp only [gName]
    revert s1 s2
    generalize (if dv < (((as.map V.ref).length : Nat) : Int) then dv else (((as.map V.ref).length : Nat) : Int)) = sp
    intro s1 s2
    have se2' : SameE p H H2 := (SameE.of (same_new hL0)).trans se2
    refine ⟨by show 0 ≤ sizeLine; decide, fun D hD => ?_⟩
    have hD0 : H D = none := se2'.free pt2.full hD
    have nDp : D ≠ p := hp.ne hD0
    have nap : a ≠ p := hp.neT ha
    refine ⟨_, rfl, a, rfl, ⟨_, SqT.of (same_new hD _ _ (se2' _ _ ha nap))⟩, for_tup (K := K) (a := a) (xs := IV hs) (fun i σ Hc => (∃ v6 v7 v8, σ = [some (.ref p), some (.ref O), some (.ref a), some (.bl wt), some (.int sp), some (.ref D), v6, v7, v8]) ∧ SameE p H Hc ∧ PotAt Hc p ∧ ∃ st, Hc D = some (.lst (SV st)) ∧ st.length = i ∧ StOk n T wt st)
      ⟨⟨_, _, _, rfl⟩, sameE_put se2' hD0, pt2.put nDp.symm, [], upd_same, rfl, StOk.nil⟩ (fun i σ Hc _ z => SqT.of (z.2.1 _ _ ha nap)) ?_ ?_⟩
    · rintro i x σ Hc hx ⟨⟨v6, v7, v8, rfl⟩, se, pt, st, hst, sl, so⟩
      obtain ⟨hi, rfl⟩ := iv_get hx
      generalize hs.getD i 0 = home
      refine ⟨_, rfl, _, rfl, _, _, rfl, rfl, p, _, rfl, by omega, by omega, pt, fun house H3 h0 h1 se3 pt3 => ?_⟩
      have seo := se.trans se3
      have hst3 := se3 _ _ hst nDp
      have ou3 := ou.sameE seo
      refine ⟨_, rfl, O, _, rfl, .inl (SqL.of ou3.at_), _, rfl, _, rfl, _, _, rfl, rfl, .inr ⟨_, rfl, _, _, rfl, rfl, .inl ⟨by rw [eln]; omega, by rw [eln]; omega⟩, ?_⟩⟩
      rw [eln]
      have m0 : 0 ≤ (n : Int) * (if decide (house < sp) = true then 1 else 0) := by split <;> omega
      have m1 : (n : Int) * (if decide (house < sp) = true then 1 else 0) ≤ n := by split <;> omega
      refine ⟨(n : Int) * (if decide (house < sp) = true then 1 else 0), rfl, by omega, by omega, fun C hC => ?_⟩
      revert m0 m1
      generalize (n : Int) * (if decide (house < sp) = true then 1 else 0) = m
      intro m0 m1
      refine comp_range (lo := 0) (n := m.toNat) (fun i ys σ H4 => (∃ u, σ = [u, some (.int house), some (.ref O)]) ∧ Same H3 H4 ∧ H4 C = some (.lst ys) ∧ ∃ js, ys = IV js ∧ js.length = i ∧ ∀ x ∈ js, 0 ≤ x ∧ x < n) ⟨⟨_, rfl⟩, same_new hC, upd_same, [], rfl, rfl, fun x hx => (nomatch hx)⟩ ?_ ?_
      · rintro j ys σ H4 Kt Kf hj ⟨⟨u, rfl⟩, sm4, hC4, js, rfl, jl, jr⟩ kt kf
        refine ⟨_, rfl, _, rfl, _, _, rfl, rfl, _, rfl, O, _, rfl, .inl (SqL.of (sm4 _ _ ou3.at_)), _, _, rfl, rfl, by rw [eln]; omega, ?_⟩
        refine kt _ _ _ hC4 (by rw [List.length_map, jl]; exact Nat.lt_of_lt_of_le (show j < 33 by omega) (by decide)) ⟨⟨_, rfl⟩, same_put sm4 hC, upd_same, js ++ [_], iv_snoc, by rw [List.length_append, jl]; rfl, fun x hx => ?_⟩
        rcases List.mem_append.mp hx with z | z
        · exact jr x z
        · rw [List.mem_singleton.mp z, eln]
          exact ⟨Int.emod_nonneg _ (by omega), Int.emod_lt_of_pos _ (by omega)⟩
      · rintro ys σ H4 ⟨_, sm4, hC4, js, rfl, jl, jr⟩
        have hst4 := sm4 _ _ hst3
        have ou4 := ou3.same sm4
        refine ⟨_, rfl, C, rfl, ⟨_, SqL.of hC4⟩, fun G hG => ?_⟩
        refine comp_list (K := K) (a := C) (xs := IV js) (fun i ys σ H5 => (∃ u, σ = [u, some (.int home), some (.bl wt), some (.ref D), some (.ref O)]) ∧ Same H4 H5 ∧ H5 G = some (.lst ys) ∧ ∃ ks, ys = IV ks ∧ ks.length ≤ i ∧ ∀ x ∈ ks, (0 ≤ x ∧ x < n) ∧ (wt = false → st.count (some x) < (outOf T x).length)) ⟨⟨_, rfl⟩, same_new hG, upd_same, [], rfl, Nat.le_refl _, fun x hx => (nomatch hx)⟩ (fun i ys σ H5 _ z => SqL.of (z.2.1 _ _ hC4)) ?_ ?_
        · rintro j x ys σ H5 Kt Kf hx ⟨⟨u, rfl⟩, sm5, hG5, ks, rfl, kl, kr⟩ kt kf
          obtain ⟨hj, rfl⟩ := iv_get hx
          have hr := jr _ (getD_mem (d := 0) hj)
          revert hr
          generalize js.getD j 0 = y
          intro hr
          have no : Kf [some (.int y), some (.int home), some (.bl wt), some (.ref D), some (.ref O)] H5 := kf _ _ ⟨⟨_, rfl⟩, sm5, hG5, ks, rfl, by omega, kr⟩
          have yes : (wt = false → st.count (some y) < (outOf T y).length) → Kt (.int y) [some (.int y), some (.int home), some (.bl wt), some (.ref D), some (.ref O)] H5 := fun hy => kt _ _ _ hG5 (by rw [List.length_map]; exact Nat.lt_of_lt_of_le (show _ < 100 by omega) (by decide)) ⟨⟨_, rfl⟩, same_put sm5 hG, upd_same, ks ++ [y], iv_snoc, by rw [List.length_append]; simp; omega, fun x hx => by
            rcases List.mem_append.mp hx with z | z
            · exact kr x z
            · rw [List.mem_singleton.mp z]; exact ⟨hr, hy⟩⟩
          refine ⟨_, rfl, _, rfl, rfl, _, rfl, ?_⟩
          refine ite2 (fun e => ?_) (fun e => ite_f no)
          refine ⟨_, rfl, wt, rfl, ?_⟩
          refine ite2 (fun e2 => ite_t ⟨_, rfl, yes fun z => absurd (e2.symm.trans z) (by decide)⟩) (fun e2 => ?_)
          obtain ⟨yn, rfl⟩ : ∃ yn : Nat, (yn : Int) = y := ⟨y.toNat, by omega⟩
          have ou5 := ou4.same sm5
          obtain ⟨row, hrow, prow⟩ := ou5.rows yn (by omega)
          refine ⟨_, rfl, .inl ⟨rfl, _, SqL.of (sm5 _ _ hst4)⟩, _, rfl, D, _, _, rfl, rfl, sm5 _ _ hst4, rfl, flat_sv, ?_⟩
          refine ⟨_, rfl, _, rfl, O, _, _, _, rfl, rfl, SqL.of ou5.at_, ref_at (by rw [ou.len]; omega), _, _, rfl, .inl (SqL.of hrow), _, _, rfl, rfl, _, rfl, ?_⟩
          refine ite2 (fun e3 => ⟨_, rfl, yes fun _ => ?_⟩) (fun e3 => no)
          have e4 := of_decide_eq_true e3
          rw [count_sv, List.length_map, prow.length_eq] at e4
          omega
        · rintro ys σ H5 ⟨_, sm5, hG5, ks, rfl, kl, kr⟩
          have hst5 := sm5 _ _ hst4
          rw [List.length_map] at kl
          refine ⟨_, rfl, .inl ⟨rfl, _, SqL.of hst5⟩, _, rfl, by show 1 ≤ sizeLine; decide, fun N hN => ?_⟩
          refine ⟨G, N, _, _, rfl, rfl, same_new hN _ _ hG5, upd_same, by rw [List.length_map]; exact Nat.le_trans (show _ ≤ 100 by simp; omega) (by decide), fun M hM => ?_⟩
          have sm6 : Same H3 (upd (upd H5 N (.lst [.non])) M (.lst (IV ks ++ [.non]))) := ((sm4.trans sm5).trans (same_new hN)).trans (same_new hM)
          have hM6 : (upd (upd H5 N (.lst [.non])) M (.lst (IV ks ++ [.non]))) M = some (.lst (IV ks ++ [.non])) := upd_same
          obtain ⟨o, ho, hok⟩ : ∃ o : Option Int, atI (IV ks ++ [.non]) 0 = some (stV o) ∧ ∀ y, o = some y → (0 ≤ y ∧ y < n) ∧ (wt = false → st.count (some y) < (outOf T y).length) := by
            cases ks with
            | nil => exact ⟨none, atI_nat (j := 0) rfl, fun y z => (nomatch z)⟩
            | cons k ks => exact ⟨some k, atI_nat (j := 0) rfl, fun y z => by cases z; exact kr k List.mem_cons_self⟩
          refine ⟨M, _, _, _, rfl, rfl, SqL.of hM6, ho, D, _, _, rfl, rfl, sm6 _ _ hst3, by rw [List.length_map, sl]; exact Nat.lt_of_lt_of_le (show i < 33 by omega) (by decide), ?_⟩
          exact ⟨⟨_, _, _, rfl⟩, sameE_put (seo.trans (SameE.of sm6)) hD0, (pt3.same sm6).put nDp.symm, st ++ [o], by rw [upd_same, sv_snoc], by rw [List.length_append, sl]; rfl, so.push hok⟩
    · rintro σ Hc ⟨⟨v6, v7, v8, rfl⟩, se, pt, st, hst, sl, so⟩
      refine ⟨_, rfl, D, _, rfl, .inl ⟨SqL.of hst, fun r hr' => ?_⟩⟩
      exact q r st _ (se.trans (SameE.of (same_new hr'))) (pt.same (same_new hr')) (se.free pt.full hr') upd_same (by rw [sl, List.length_map]) so
end
end K51

set_option maxHeartbeats 1500000
namespace K51
open PySem L2
abbrev sHand : Stmt := top 18
abbrev sBeh : Stmt := top 19
theorem nbOHT : (["_law_other", "_law_house", "_law_taken"] : List Str).Nodup := by decide +kernel
/-- the ties taken so far, where none waits -/
structure TkOk (T : List (Int × Int)) (pre hd : List (Option Int)) (ps : List (Int × Int)) : Prop where
  nd : ps.Nodup
  sub : ∀ q ∈ ps, q ∈ T
  fst : ∀ h, (ps.map (·.1)).count h = pre.count (some h)
  snd : ∀ h, (ps.map (·.2)).count h = hd.count (some h)
theorem count_snoc {α : Type} [BEq α] [LawfulBEq α] {xs : List α} {x y : α} : (xs ++ [x]).count y = xs.count y + (if x == y then 1 else 0) := by
  rw [List.count_append, List.count_singleton]
theorem TkOk.none {T : List (Int × Int)} {pre hd : List (Option Int)} {ps : List (Int × Int)} (h : TkOk T pre hd ps) : TkOk T (pre ++ [Option.none]) (hd ++ [Option.none]) ps :=
  ⟨h.nd, h.sub, fun k => by rw [h.fst, count_snoc]; simp, fun k => by rw [h.snd, count_snoc]; simp⟩
theorem TkOk.push {T : List (Int × Int)} {pre hd : List (Option Int)} {ps : List (Int × Int)} {a b : Int} (h : TkOk T pre hd ps) (hn : (a, b) ∉ ps) (hT : (a, b) ∈ T) : TkOk T (pre ++ [some a]) (hd ++ [some b]) (ps ++ [(a, b)]) := by
  refine ⟨nodup_append' h.nd (List.nodup_cons.mpr ⟨(fun z => nomatch z), List.nodup_nil⟩) fun x hx hy => hn ?_, fun q hq => ?_, fun k => ?_, fun k => ?_⟩
  · rw [← List.mem_singleton.mp hy]; exact hx
  · rcases List.mem_append.mp hq with z | z
    · exact h.sub q z
    · rw [List.mem_singleton.mp z]; exact hT
  · rw [List.map_append, List.map_cons, List.map_nil, count_snoc, count_snoc, h.fst]; simp
  · rw [List.map_append, List.map_cons, List.map_nil, count_snoc, count_snoc, h.snd]; simp
theorem TkOk.more {n : Int} {N : Nat} {T : List (Int × Int)} {st pre hd : List (Option Int)} {ps : List (Int × Int)} {h : Int} {i : Nat} (k : TkOk T pre hd ps) (t : Ties n T) (s : StOk N T false st) (hp : pre = st.take i) (hi : st[i]? = some (some h)) : ∃ o ∈ outOf T h, (h, o) ∉ ps := by
  refine Classical.byContradiction fun no => ?_
  have all : ∀ o ∈ outOf T h, (h, o) ∈ ps := fun o ho => Classical.byContradiction fun z => no ⟨o, ho, z⟩
  have a1 := sub_countP (fun p : Int × Int => p.1 == h) (a := T) (b := ps) t.nd fun x hx e => by
    have e' : x.1 = h := by simpa using e
    have := all x.2 (outOf_mem.mpr (by rw [← e']; exact hx))
    rw [← e'] at this; exact this
  rw [← count_fst, ← count_fst, k.fst, ← outOf_len] at a1
  have a2 := s.few rfl h
  have a3 : (st.take (i + 1)).count (some h) ≤ st.count (some h) := (List.take_sublist _ _).count_le _
  rw [List.take_add_one, hi, Option.toList_some, count_snoc, ← hp, if_pos (by simp)] at a3
  omega
theorem TkOk.stand {n : Int} {N : Nat} {T : List (Int × Int)} {pre hd : List (Option Int)} {ps : List (Int × Int)} {h : Int} (k : TkOk T pre hd ps) (t : Ties n T) : hd.count (some h) ≤ (outOf T h).length := by
  have a1 := sub_countP (fun p : Int × Int => p.2 == h) (a := ps) (b := T) k.nd fun x hx _ => k.sub x hx
  rw [← count_snd, ← count_snd, k.snd, ← t.bal, ← outOf_len] at a1
  exact a1
theorem set_k {v : V} {i : Nat} {u : TS} {D : Ends} {σ : St} {H : Hp} (h : u D (σ.set i (some v)) H) : tSeq (tAsg (tC v) (gName i)) u D σ H := h
section
variable {P : Program} {w : World} {K : PySem.W.Frag} {mg : Str → Option Value} {base : Heap}
theorem scHand : FnScope ["_law_pot_here", "_law_outs_here", "_law_stand", "_law_waits", "_law_taken", "_law_handing_here", "_law_house", "_law_goes", "_law_some"] ["_law_pot_here", "_law_outs_here", "_law_stand", "_law_waits"] (defScope sHand) := ⟨rfl, rfl, rfl, by decide +kernel, rfl, by decide +kernel, by decide +kernel⟩
def spHand : Sp := fun vs H Q _ => ∃ (p O a : Addr) (wt : Bool) (as : List Addr) (n : Nat) (T : List (Int × Int)) (st : List (Option Int)), vs = [.ref p, .ref O, .ref a, .bl wt] ∧ PotAt H p ∧ OutsAt p H O as n T ∧ Ties n T ∧ 1 ≤ n ∧ n ≤ 32 ∧ H a = some (.tup (SV st)) ∧ st.length ≤ 16 ∧ StOk n T wt st ∧
  ∀ (r : Addr) (hd : List (Option Int)) (H' : Hp), SameE p H H' → PotAt H' p → H r = none → H' r = some (.tup (SV hd)) → hd.length = st.length → (∀ j, j < st.length → st.getD j none = none → hd.getD j none = none) → StOk n T wt hd → Q (.ref r) H'
theorem ok_hand {f : Addr} {fd : FuncData} (F : Fun K "_law_handing" "_law_handing" sHand f fd) (B : Bl mg) (T0 : Cal P w K mg base CX0 1 "_law_take" ["_law_pot_here", "_law_many"] spTake) : FnOk P w K mg base CX0 2 f fd ["_law_pot_here", "_law_outs_here", "_law_stand", "_law_waits"] spHand := by
  refine F.ok scHand (fun vs H Q E h => ?_) (fun cdv A outer s H vs Q E hr h => ?_)
  · obtain ⟨p, O, a, wt, as, n, T, st, rfl, _⟩ := h
    rfl
  · obtain ⟨p, O, a, wt, as, n, T, st, rfl, hp, ou, ti, n1, n32, ha, sl, so, q⟩ := h
    have hu : (A.deeper (PyProof.Rows.envOfC "_law_handing" (defScope sHand) s.heap.objs.size f cdv)).units + 2 < cLine := by have := hr.un; omega
    refine' ⟨_, pss_cons (ps_set (i := 4) scHand.nd rfl (Or.inr rfl) (pe_lst pa_nil))
      (pss_cons (ps_set (i := 5) scHand.nd rfl (Or.inl rfl) (pe_lst pa_nil))
      (pss_cons (ps_for PassesOwn.never rfl (pi_tup (pv 2)) (pg_name (i := 6) scHand.nd rfl (Or.inr rfl))
        (pss_cons (ps_set (i := 7) scHand.nd rfl (Or.inl rfl) pe_non)
        (pss_cons (ps_if (pt_cmp (pc_notN (pv 6)))
          (pss_cons (ps_set (i := 8) scHand.nd rfl (Or.inl rfl) (pe_op op_cat ?c1 (pe_op op_rep (pe_lst (pa_cons (pv 6) pa_nil)) (pe_callTy call_int1 (by rfl) B.int PyProof.Rows.boot_int (pa_cons (pv 3) pa_nil)))))
          (pss_cons (ps_set (i := 7) scHand.nd rfl (Or.inl rfl) (pe_ix ix_list (pv 8) (pe_cal T0 hr pass0 (pa_cons (pv 0) (pa_cons (pe_callB call_len_seq (by rfl) B.len PySem.boot_len (pa_cons (pv 8) pa_nil)) pa_nil))) (fun _ _ => rfl)))
          (pss_one (ps_expr (pe_bm PySem.F.plainAttrs_list PySem.F.slot_list_append PySem.F.type_list_append mt_append (pv 4) (pa_cons (pe_tup (pa_cons (pv 6) (pa_cons (pv 7) pa_nil))) pa_nil))))))
          pss_nil)
        (pss_one (ps_expr (pe_bm PySem.F.plainAttrs_list PySem.F.slot_list_append PySem.F.type_list_append mt_append (pv 5) (pa_cons (pv 7) pa_nil)))))))
      (pss_one (ps_ret (pe_callTy call_tuple_of (by rfl) B.tup PyProof.Rows.boot_tuple (pa_cons (pv 5) pa_nil)))))), ?_⟩
    case c1 =>
      refine' pe_comp (g := gName 0) (tt := tTest (tOp (rInP K true) (tTup (tCons (tVar 1) (tCons (tVar 0) tNil))) (tVar 2))) (te := tVar 0) (NB := ["_law_other", "_law_house", "_law_taken"]) (src := [none, some 6, some 4]) (blk_of (by kernel_rfl)) rfl (pi_list (pe_ix ix_list (pv 1) (pv 6) (fun _ _ => rfl))) ?g ?t ?e
      case g => exact fun cl C s₃ H₃ fp => pg_name (i := 0) nbOHT rfl (Or.inl rfl) (Or.inr rfl)
      case t => exact fun cl C s₃ H₃ fp => pts_one (pt_cmpR (op_notInP hu) (pe_tup (pa_cons (pv 1) (pa_cons (pv 0) pa_nil))) (pv 2) (by rfl))
      case e => exact fun cl C s₃ H₃ fp => pv 0
    refine ⟨by show 0 ≤ sizeLine; decide, fun Tk hTk => ⟨by show 0 ≤ sizeLine; decide, fun Hd hHd => ?_⟩⟩
    have hHd0 : H Hd = none := (same_new hTk).free hHd
    have nTH : Tk ≠ Hd := ne_of_none upd_same hHd
    have nTp : Tk ≠ p := hp.ne hTk
    have nHp : Hd ≠ p := hp.ne hHd0
    have nap : a ≠ p := hp.neT ha
    have sm1 : Same H (upd (upd H Tk (.lst [])) Hd (.lst [])) := (same_new hTk).trans (same_new hHd)
    refine ⟨_, rfl, a, rfl, ⟨_, SqT.of (sm1 _ _ ha)⟩, for_tup (K := K) (a := a) (xs := SV st) (fun i σ Hc => (∃ v6 v7 v8, σ = [some (.ref p), some (.ref O), some (.ref a), some (.bl wt), some (.ref Tk), some (.ref Hd), v6, v7, v8]) ∧ SameE p H Hc ∧ PotAt Hc p ∧ ∃ zs hd, Hc Tk = some (.lst (zr zs)) ∧ PO Hc zs ∧ zs.length ≤ i ∧ Hc Hd = some (.lst (SV hd)) ∧ hd.length = i ∧ (∀ j, j < i → st.getD j none = none → hd.getD j none = none) ∧ (∀ y, some y ∈ hd → 0 ≤ y ∧ y < n) ∧ (wt = false → TkOk T (st.take i) hd (zp zs)))
      ⟨⟨_, _, _, rfl⟩, SameE.of sm1, hp.same sm1, [], [], by rw [upd_ne nTH]; exact upd_same, PO.nil, Nat.le_refl _, upd_same, rfl, fun j hj => absurd hj (by omega), fun y hy => (nomatch hy), fun _ => ⟨List.nodup_nil, fun q hq => (nomatch hq), fun h => rfl, fun h => rfl⟩⟩ (fun i σ Hc _ z => SqT.of (z.2.1 _ _ ha nap)) ?_ ?_⟩
    · rintro i x σ Hc hx ⟨⟨v6, v7, v8, rfl⟩, se, pt, zs, hd, hTc, po, zl, hHc, hl, hn, hy, tk⟩
      obtain ⟨hi, rfl⟩ := sv_get hx
      have hgi : st[i]? = some (st.getD i none) := by rw [List.getD_eq_getElem?_getD, List.getElem?_eq_getElem hi]; rfl
      have etk : st.take (i + 1) = st.take i ++ [st.getD i none] := by rw [List.take_add_one, hgi, Option.toList_some]
      refine set_k ?_
      refine seq_k (fun σ Hk => ∃ g zs v8, σ = [some (.ref p), some (.ref O), some (.ref a), some (.bl wt), some (.ref Tk), some (.ref Hd), some (stV (st.getD i none)), some (stV g), v8] ∧ SameE p H Hk ∧ PotAt Hk p ∧ Hk Tk = some (.lst (zr zs)) ∧ PO Hk zs ∧ zs.length ≤ i + 1 ∧ Hk Hd = some (.lst (SV hd)) ∧ (st.getD i none = none → g = none) ∧ (∀ y, g = some y → 0 ≤ y ∧ y < n) ∧ (wt = false → TkOk T (st.take (i + 1)) (hd ++ [g]) (zp zs))) ?_ ?_
      · rintro σ Hk ⟨g, zs', v8', rfl, se', pt', hTk', po', zl', hHk', hng, hyg, tk'⟩
        refine ⟨_, rfl, .inl ⟨rfl, _, SqL.of hHk'⟩, _, rfl, Hd, _, _, rfl, rfl, hHk', by rw [List.length_map, hl]; exact Nat.lt_of_lt_of_le (show i < 33 by omega) (by decide), ?_⟩
        refine ⟨⟨_, _, _, rfl⟩, sameE_put se' hHd0, pt'.put nHp.symm, zs', hd ++ [g], by rw [upd_ne nTH]; exact hTk', po'.putL hHk', zl', by rw [upd_same, sv_snoc], by rw [List.length_append, hl]; rfl, fun j hj e => ?_, fun y h => ?_, tk'⟩
        · by_cases ej : j = i
          · subst ej
            rw [List.getD_eq_getElem?_getD, List.getElem?_append_right (by omega), hl, Nat.sub_self, hng e]; rfl
          · have := hn j (by omega) e
            rw [List.getD_eq_getElem?_getD, List.getElem?_append_left (by omega), ← List.getD_eq_getElem?_getD]
            exact this
        · rcases List.mem_append.mp h with z | z
          · exact hy y z
          · exact hyg y (List.mem_singleton.mp z).symm
      · intro N nN
        refine if_k (fun Hk => Hc = Hk ∧ ∃ h, st.getD i none = some h) (fun Hk => Hc = Hk ∧ st.getD i none = none) ?_ ?_ ?_
        rotate_left
        · rintro _ ⟨rfl, hno⟩
          exact nN _ _ ⟨none, zs, _, rfl, se, pt, hTc, po, by omega, hHc, fun _ => rfl, fun y z => (nomatch z), fun z => by rw [etk, hno]; exact (tk z).none⟩
        · intro Y N' yy nn
          refine ⟨_, rfl, _, rfl, ?_⟩
          refine ite2 (fun e => yy _ ⟨rfl, ?_⟩) (fun e => nn _ ⟨rfl, ?_⟩)
          · cases z : st.getD i none with
            | none => rw [z] at e; exact absurd e (by decide)
            | some h => exact ⟨h, rfl⟩
          · cases z : st.getD i none with
            | none => rfl
            | some h => exact absurd (by rw [z]; rfl) e
        rintro _ ⟨rfl, h, hh⟩
        rw [hh]
        have hr0 := so.rg h (by rw [← hh]; exact getD_mem hi)
        obtain ⟨hN, rfl⟩ : ∃ hN : Nat, (hN : Int) = h := ⟨h.toNat, by omega⟩
        dsimp only [stV]
        have ouc := ou.sameE se
        obtain ⟨row, hrow, prow⟩ := ouc.rows hN (by omega)
        have rl : row.length ≤ 32 := by rw [prow.length_eq]; exact outOf_le ti (by omega)
        refine ⟨_, rfl, _, rfl, O, _, _, _, rfl, rfl, SqL.of ouc.at_, ref_at (by rw [ou.len]; omega), as.getD hN 0, rfl, ⟨_, SqL.of hrow⟩, fun D hD => ?_⟩
        refine comp_list (K := K) (a := as.getD hN 0) (xs := IV row) (fun c ys σ H3 => (∃ u, σ = [u, some (.int hN), some (.ref Tk)]) ∧ Same Hc H3 ∧ H3 D = some (.lst ys) ∧ ∃ ks, ys = IV ks ∧ ks.length ≤ c ∧ (∀ x ∈ ks, x ∈ row ∧ ((hN : Int), x) ∉ zp zs) ∧ ∀ x ∈ row.take c, ((hN : Int), x) ∉ zp zs → x ∈ ks)
          ⟨⟨_, rfl⟩, same_new hD, upd_same, [], rfl, Nat.le_refl _, fun x hx => (nomatch hx), fun x hx => (nomatch hx)⟩ (fun c ys σ H3 _ z => SqL.of (z.2.1 _ _ hrow)) ?_ ?_
        · rintro c x ys σ H3 Kt Kf hx ⟨⟨u, rfl⟩, sm3, hD3, ks, rfl, kl, kr, kc⟩ kt kf
          obtain ⟨hc, rfl⟩ := iv_get hx
          have ex : row.take (c + 1) = row.take c ++ [row.getD c 0] := by rw [List.take_add_one, List.getElem?_eq_getElem hc, Option.toList_some, List.getD_eq_getElem?_getD, List.getElem?_eq_getElem hc]; rfl
          have hxm := getD_mem (d := 0) hc
          revert ex hxm
          generalize row.getD c 0 = y
          intro ex hxm
          refine ⟨_, rfl, _, rfl, by show 2 ≤ sizeLine; decide, fun t ht => ⟨_, rfl, inP_of (u := ((hN : Int), y)) (zs := zs) upd_same (same_new ht _ _ (sm3 _ _ hTc)) ((po.same sm3).putN ht) ⟨_, rfl, ?_⟩⟩⟩
          have sm4 : Same Hc (upd H3 t (prT ((hN : Int), y))) := sm3.trans (same_new ht)
          have hD4 := same_new (o := prT ((hN : Int), y)) ht _ _ hD3
          refine ite2 (fun e => ?_) (fun e => ?_)
          · have hni : ((hN : Int), y) ∉ zp zs := by
              intro z
              have : (!decide (((hN : Int), y) ∈ zp zs)) = true := e
              rw [decide_eq_true z] at this
              exact absurd this (by decide)
            refine ⟨_, rfl, kt _ _ _ hD4 (by rw [List.length_map]; exact Nat.lt_of_lt_of_le (show _ < 100 by omega) (by decide)) ⟨⟨_, rfl⟩, same_put sm4 hD, upd_same, ks ++ [y], iv_snoc, by rw [List.length_append]; simp; omega, fun x hx => ?_, fun x hx hn' => ?_⟩⟩
            · rcases List.mem_append.mp hx with z | z
              · exact kr x z
              · rw [List.mem_singleton.mp z]; exact ⟨hxm, hni⟩
            · rw [ex] at hx
              rcases List.mem_append.mp hx with z | z
              · exact List.mem_append.mpr (.inl (kc x z hn'))
              · exact List.mem_append.mpr (.inr z)
          · have hin : ((hN : Int), y) ∈ zp zs := Classical.byContradiction fun z => e (by show (!decide (((hN : Int), y) ∈ zp zs)) = true; rw [decide_eq_false z]; rfl)
            refine kf _ _ ⟨⟨_, rfl⟩, sm4, hD4, ks, rfl, by omega, kr, fun x hx hn' => ?_⟩
            rw [ex] at hx
            rcases List.mem_append.mp hx with z | z
            · exact kc x z hn'
            · rw [List.mem_singleton.mp z] at hn'; exact absurd hin hn'
        · rintro ys σ H3 ⟨_, sm3, hD3, ks, rfl, kl, kr, kc⟩
          rw [List.length_map] at kl
          rw [List.length_map, List.take_length] at kc
          refine ⟨_, rfl, by show 1 ≤ sizeLine; decide, fun R1 hR1 => ⟨_, rfl, .inr ⟨wt, rfl, R1, _, _, rfl, rfl, upd_same, ?_, ?_, ?_, fun R2 hR2 => ?_⟩⟩⟩
          · cases wt <;> decide
          · cases wt <;> decide
          · exact Nat.le_trans (show 1 * (if wt = true then (1 : Int) else 0).toNat ≤ 1 by cases wt <;> decide) (by decide)
          obtain ⟨es, hes, esr, esn⟩ : ∃ es : List Int, (List.replicate (if wt = true then (1 : Int) else 0).toNat [V.int hN]).flatten = IV es ∧ es.length ≤ 1 ∧ (if wt = true then es = [(hN : Int)] else es = []) := by
            cases wt
            · exact ⟨[], rfl, by decide, rfl⟩
            · exact ⟨[(hN : Int)], rfl, by simp, rfl⟩
          have hR2' : (upd (upd H3 R1 (.lst [.int hN])) R2 (.lst (List.replicate (if wt = true then (1 : Int) else 0).toNat [V.int hN]).flatten)) R2 = some (.lst (IV es)) := by rw [upd_same, hes]
          have sm4 : Same H3 (upd (upd H3 R1 (.lst [.int hN])) R2 (.lst (List.replicate (if wt = true then (1 : Int) else 0).toNat [V.int hN]).flatten)) := (same_new hR1).trans (same_new hR2)
          refine ⟨D, R2, _, _, rfl, rfl, sm4 _ _ hD3, hR2', by rw [List.length_map, List.length_map]; exact Nat.le_trans (show _ ≤ 100 by omega) (by decide), fun S hS => ?_⟩
          have ekes : IV ks ++ IV es = IV (ks ++ es) := List.map_append.symm
          rw [ekes]
          have sm5 := (sm3.trans sm4).trans (same_new (o := .lst (IV (ks ++ es))) hS)
          have hS5 : (upd (upd (upd H3 R1 (.lst [.int hN])) R2 (.lst (List.replicate (if wt = true then (1 : Int) else 0).toNat [V.int hN]).flatten)) S (.lst (IV (ks ++ es)))) S = some (.lst (IV (ks ++ es))) := upd_same
          dsimp only [gName]
          revert sm5 hS5
          generalize upd (upd (upd H3 R1 (.lst [.int hN])) R2 (.lst (List.replicate (if wt = true then (1 : Int) else 0).toNat [V.int hN]).flatten)) S (.lst (IV (ks ++ es))) = H5
          intro sm5 hS5
          have ne0 : 0 < (ks ++ es).length := by
            rw [List.length_append]
            cases wt with
            | true => rw [if_pos rfl] at esn; rw [esn]; simp
            | false =>
              obtain ⟨o, ho, hno⟩ := (tk rfl).more ti so rfl (by rw [hgi, hh])
              have := kc o (prow.mem_iff.mpr ho) hno
              have := List.length_pos_of_mem this
              omega
          have nSp : S ≠ p := by
            have : Hc S = none := (sm3.trans sm4).free hS
            exact pt.ne this
          have pt5 := pt.same sm5
          refine ⟨_, rfl, _, rfl, _, rfl, S, _, rfl, .inl (SqL.of hS5), p, _, rfl, by rw [List.length_map]; omega, by rw [List.length_map, List.length_append]; omega, pt5, fun d H6 d0 d1 se6 pt6 => ?_⟩
          rw [List.length_map] at d1
          obtain ⟨dn, rfl⟩ : ∃ dn : Nat, (dn : Int) = d := ⟨d.toNat, by omega⟩
          have hdn : dn < (ks ++ es).length := by omega
          have hmem := getD_mem (d := 0) hdn
          refine ⟨S, _, _, _, rfl, rfl, SqL.of (se6 _ _ hS5 nSp), iv_at hdn, ?_⟩
          revert hmem
          generalize (ks ++ es).getD dn 0 = g
          intro hmem
          have hg : (0 ≤ g ∧ g < n) ∧ (wt = false → ((hN : Int), g) ∈ T ∧ ((hN : Int), g) ∉ zp zs) := by
            rcases List.mem_append.mp hmem with z | z
            · obtain ⟨z1, z2⟩ := kr g z
              have inT := outOf_mem.mp (prow.mem_iff.mp z1)
              exact ⟨(ti.rg _ inT).2, fun _ => ⟨inT, z2⟩⟩
            · cases wt with
              | true => rw [if_pos rfl] at esn; rw [esn] at z; rw [List.mem_singleton.mp z]; exact ⟨hr0, fun y => absurd y (by decide)⟩
              | false => rw [if_neg (by decide)] at esn; rw [esn] at z; exact absurd z (by simp)
          have se6' : SameE p Hc H6 := (SameE.of sm5).trans se6
          have hT6 := se6' _ _ hTc nTp
          have hH6 := se6' _ _ hHc nHp
          have po6 := po.sameE se6' pt
          refine ⟨_, rfl, .inl ⟨rfl, _, SqL.of hT6⟩, _, rfl, _, rfl, by show 2 ≤ sizeLine; decide, fun t ht => ?_⟩
          have nTt : Tk ≠ t := ne_of_none hT6 ht
          refine ⟨Tk, _, _, rfl, rfl, by rw [upd_ne nTt]; exact hT6, by rw [zr_len]; exact Nat.lt_of_lt_of_le (show _ < 100 by omega) (by decide), ?_⟩
          refine nN _ _ ⟨some g, zs ++ [(t, ((hN : Int), g))], _, by rw [hh]; rfl, sameE_put ((se.trans se6').trans (SameE.of (same_new ht))) hTk, (pt6.same (same_new ht)).put nTp.symm, by rw [upd_same, zr_append]; rfl, PO.putL (xs := zr zs) ((po6.putN ht).append (PO.one upd_same)) (by rw [upd_ne nTt]; exact hT6), by rw [List.length_append]; simp; omega, by rw [upd_ne nTH.symm, upd_ne (ne_of_none hH6 ht)]; exact hH6, fun z => absurd (hh.symm.trans z) (by intro y; cases y), fun y z => by cases z; exact hg.1, fun z => ?_⟩
          rw [etk, hh, zp_append]
          exact (tk z).push (hg.2 z).2 (hg.2 z).1
    · rintro σ Hc ⟨⟨v6, v7, v8, rfl⟩, se, pt, zs, hd, hTc, po, zl, hHc, hl, hn, hy, tk⟩
      rw [List.length_map] at hl hn
      refine ⟨_, rfl, Hd, _, rfl, .inl ⟨SqL.of hHc, fun r hr' => ?_⟩⟩
      exact q r hd _ (se.trans (SameE.of (same_new hr'))) (pt.same (same_new hr')) (se.free pt.full hr') upd_same hl hn ⟨hy, fun z h => (tk z).stand (N := n) ti⟩
end
end K51

set_option maxHeartbeats 1500000
namespace K51
open PySem L2
abbrev sSB : Stmt := top 1
abbrev sSO : Stmt := top 3
theorem nbHG : (["home", "goes"] : List Str).Nodup := by decide +kernel
theorem nbHHs : (["handing", "homes"] : List Str).Nodup := by decide +kernel
/-! ### the stand behind a handing -/
def bh1 (hs : List Int) (i : Nat) (o : Option Int) : Option Int := if o = some (hs.getD i 0) then none else o
def bhS (hs : List Int) (gs : List (Option Int)) (k : Nat) : List (Option Int) := (List.range k).map fun i => bh1 hs i (gs.getD i none)
theorem bhS_succ {hs : List Int} {gs : List (Option Int)} {k : Nat} : bhS hs gs (k + 1) = bhS hs gs k ++ [bh1 hs k (gs.getD k none)] := by unfold bhS; rw [List.range_succ, List.map_append]; rfl
theorem bhS_len {hs : List Int} {gs : List (Option Int)} {k : Nat} : (bhS hs gs k).length = k := by unfold bhS; rw [List.length_map, List.length_range]
theorem bh1_some {hs : List Int} {i : Nat} {o : Option Int} {h : Int} (e : bh1 hs i o = some h) : o = some h := by
  unfold bh1 at e
  by_cases z : o = some (hs.getD i 0)
  · rw [if_pos z] at e; cases e
  · rw [if_neg z] at e; exact e
theorem range_getD {gs : List (Option Int)} : (List.range gs.length).map (fun k => gs.getD k none) = gs := by
  refine List.ext_getElem (by simp) fun i h1 h2 => ?_
  rw [List.getElem_map, List.getElem_range, List.getD_eq_getElem?_getD, List.getElem?_eq_getElem h2]; rfl
theorem bhS_ok {n m : Nat} {T : List (Int × Int)} {wt : Bool} {hs : List Int} {gs : List (Option Int)} (h : StOk n T wt gs) (hm : gs.length = m) : StOk n T wt (bhS hs gs m) := by
  subst hm
  refine ⟨fun x hx => ?_, fun z x => ?_⟩
  · obtain ⟨i, hi, e⟩ := List.mem_map.mp hx
    exact h.rg x (by rw [← bh1_some e]; exact getD_mem (List.mem_range.mp hi))
  · refine Nat.le_trans ?_ (h.few z x)
    conv => rhs; rw [← range_getD (gs := gs)]
    unfold bhS
    rw [List.count_eq_countP, List.count_eq_countP, List.countP_map, List.countP_map]
    refine List.countP_mono_left fun i _ e => ?_
    have e' : bh1 hs i (gs.getD i none) = some x := by simpa using e
    have := bh1_some e'
    show (gs.getD i none == some x) = true
    rw [this]; simp
theorem bh_val {hs : List Int} {i : Nat} {o : Option Int} : (if stV o = .int (hs.getD i 0) then V.non else stV o) = stV (bh1 hs i o) := by
  unfold bh1
  by_cases z : o = some (hs.getD i 0)
  · rw [if_pos z, if_pos (by rw [z]; rfl)]; rfl
  · rw [if_neg z, if_neg (fun (y : stV o = V.int (hs.getD i 0)) => z (stV_inj (show stV o = stV (some (hs.getD i 0)) from y)))]
section
variable {P : Program} {w : World} {K : PySem.W.Frag} {mg : Str → Option Value} {base : Heap}
theorem scSB : FnScope ["homes", "handing"] ["homes", "handing"] (defScope sSB) := ⟨rfl, rfl, rfl, by decide +kernel, rfl, by decide +kernel, by decide +kernel⟩
def spSB : Sp := fun vs H Q _ => ∃ (a c : Addr) (hs : List Int) (gs : List (Option Int)) (m : Nat), vs = [.ref a, .ref c] ∧ H a = some (.tup (IV hs)) ∧ H c = some (.tup (SV gs)) ∧ hs.length = m ∧ gs.length = m ∧ m ≤ 16 ∧ ∀ (r : Addr) (H' : Hp), Same H H' → H r = none → H' r = some (.tup (SV (bhS hs gs m))) → Q (.ref r) H'
theorem ok_sb {f : Addr} {fd : FuncData} (F : Fun K "stand_behind" "stand_behind" sSB f fd) (B : Bl mg) : FnOk P w K mg base CX0 1 f fd ["homes", "handing"] spSB := by
  refine F.ok scSB (fun vs H Q E h => ?_) (fun cdv A outer s H vs Q E hr h => ?_)
  · obtain ⟨a, c, hs, gs, m, rfl, _⟩ := h
    rfl
  · obtain ⟨a, c, hs, gs, m, rfl, ha, hc, hl, gl, m16, q⟩ := h
    refine' ⟨_, pss_one (ps_ret (pe_callTy call_tuple_of (by rfl) B.tup PyProof.Rows.boot_tuple (pa_cons ?c pa_nil))), ?_⟩
    case c =>
      refine' pe_comp (g := gTup K 2 (gCons (gName 0) (gCons (gName 1) gNil))) (te := tIf (tTest (tOp rEq (tVar 1) (tVar 0))) (tC .non) (tVar 1)) (NB := ["home", "goes"]) (src := [none, none]) (blk_of (by kernel_rfl)) rfl
        (pi_zipT rfl B.zip (pa_cons (pv 0) (pa_cons (pv 1) pa_nil))) ?g ?t ?e
      case g => exact fun cl C s₃ H₃ fp => pg_tup (n := 2) rfl (pgs_cons (pg_name (i := 0) nbHG rfl (Or.inl rfl) (Or.inr rfl)) (pgs_cons (pg_name (i := 1) nbHG rfl (Or.inl rfl) (Or.inr rfl)) pgs_nil))
      case t => exact fun cl C s₃ H₃ fp => pts_nil
      case e => exact fun cl C s₃ H₃ fp => pe_ifExp (pt_cmpR op_eq (pv 1) (pv 0) (nomark _)) pe_non (pv 1)
    refine ⟨_, rfl, _, rfl, a, c, _, _, rfl, SqT.of ha, SqT.of hc, by rw [List.length_map, List.length_map, hl, gl], fun D hD => ?_⟩
    refine comp_zip (K := K) (a := a) (b := c) (xs := IV hs) (ys := SV gs) (by rw [List.length_map, List.length_map, hl, gl]) (fun i zs σ H3 => (∃ u v, σ = [u, v]) ∧ zs = SV (bhS hs gs i) ∧ Same H H3 ∧ H3 D = some (.lst zs)) ⟨⟨_, _, rfl⟩, rfl, same_new hD, upd_same⟩ (fun i zs σ H3 _ z => ⟨SqT.of (z.2.2.1 _ _ ha), SqT.of (z.2.2.1 _ _ hc)⟩) ?_ ?_
    · rintro i x y t zs σ H3 Kt Kf hx hy ⟨⟨u, v, rfl⟩, rfl, sm, hD3⟩ ht kt kf
      obtain ⟨hi, rfl⟩ := iv_get hx
      obtain ⟨hj, rfl⟩ := sv_get hy
      refine ⟨_, _, rfl, SqT.of upd_same, rfl, _, _, rfl, _, _, rfl, rfl, ?_⟩
      refine ⟨_, rfl, _, rfl, scal_sv, _, rfl, ?_⟩
      have fin : ∀ vv, vv = stV (bh1 hs i (gs.getD i none)) → Kt vv [some (.int (hs.getD i 0)), some (stV (gs.getD i none))] (upd H3 t (.tup [.int (hs.getD i 0), stV (gs.getD i none)])) := fun vv e => kt _ _ _ (same_new ht _ _ hD3) (by rw [List.length_map, bhS_len]; exact Nat.lt_of_lt_of_le (show i < 33 by omega) (by decide)) ⟨⟨_, _, rfl⟩, by rw [e, bhS_succ, sv_snoc], same_put (sm.trans (same_new ht)) hD, upd_same⟩
      refine ite2 (fun e => fin _ ?_) (fun e => ⟨_, rfl, fin _ ?_⟩)
      · rw [← bh_val, if_pos (of_decide_eq_true e)]
      · rw [← bh_val, if_neg (fun z => e (decide_eq_true z))]
    · rintro zs σ H3 ⟨_, rfl, sm, hD3⟩
      rw [List.length_map, hl] at hD3
      refine ⟨D, _, rfl, .inl ⟨SqL.of hD3, fun r hr' => ?_⟩⟩
      exact q r _ (sm.trans (same_new hr')) (sm.free hr') upd_same
theorem scBeh : FnScope ["_law_homes_here", "_law_stand", "_law_handing_here", "_law_found", "_law_k", "_law_gone"] ["_law_homes_here", "_law_stand", "_law_handing_here"] (defScope sBeh) := ⟨rfl, rfl, rfl, by decide +kernel, rfl, by decide +kernel, by decide +kernel⟩
def spBeh : Sp := fun vs H Q _ => ∃ (a b c : Addr) (hs : List Int) (st gs : List (Option Int)) (m : Nat), vs = [.ref a, .ref b, .ref c] ∧ H a = some (.tup (IV hs)) ∧ H b = some (.tup (SV st)) ∧ H c = some (.tup (SV gs)) ∧ hs.length = m ∧ st.length = m ∧ gs.length = m ∧ m ≤ 16 ∧ (∀ j, j < m → st.getD j none = none → gs.getD j none = none) ∧ ∀ (r : Addr) (H' : Hp), Same H H' → H r = none → H' r = some (.tup (SV (bhS hs gs m))) → Q (.ref r) H'
theorem ok_beh {f : Addr} {fd : FuncData} (F : Fun K "_law_behind" "_law_behind" sBeh f fd) (B : Bl mg) : FnOk P w K mg base CX0 1 f fd ["_law_homes_here", "_law_stand", "_law_handing_here"] spBeh := by
  refine F.ok scBeh (fun vs H Q E h => ?_) (fun cdv A outer s H vs Q E hr h => ?_)
  · obtain ⟨a, b, c, hs, st, gs, m, rfl, _⟩ := h
    rfl
  · obtain ⟨a, b, c, hs, st, gs, m, rfl, ha, hb, hc, hl, sl, gl, m16, hn, q⟩ := h
    refine' ⟨_, pss_cons (ps_set (i := 3) scBeh.nd rfl (Or.inl rfl) (pe_lst pa_nil))
      (pss_cons (ps_for PassesOwn.never rfl (pi_range1 rfl B.range (pa_cons (pe_callB call_len_seq (by rfl) B.len PySem.boot_len (pa_cons (pv 0) pa_nil)) pa_nil)) (pg_name (i := 4) scBeh.nd rfl (Or.inl rfl))
        (pss_cons (ps_set (i := 5) scBeh.nd rfl (Or.inl rfl) (pe_or (pe_cmp (pc_isN (pe_ix ix_tup (pv 1) (pv 4) (fun _ _ => rfl)))) (pe_one (pe_cmpR op_eq (pe_ix ix_tup (pv 2) (pv 4) (fun _ _ => rfl)) (pe_ix ix_tup (pv 0) (pv 4) (fun _ _ => rfl)) (nomark _)))))
        (pss_one (ps_expr (pe_bm PySem.F.plainAttrs_list PySem.F.slot_list_append PySem.F.type_list_append mt_append (pv 3) (pa_cons (pe_ifExp (pt_val (pv 5)) pe_non (pe_ix ix_tup (pv 2) (pv 4) (fun _ _ => rfl))) pa_nil))))))
      (pss_one (ps_ret (pe_callTy call_tuple_of (by rfl) B.tup PyProof.Rows.boot_tuple (pa_cons (pv 3) pa_nil))))), ?_⟩
    refine ⟨by show 0 ≤ sizeLine; decide, fun D hD => ?_⟩
    refine ⟨_, rfl, a, _, rfl, .inr (SqT.of (same_new hD _ _ ha)), m, by rw [List.length_map, hl], by omega, by omega, for_range (lo := 0) (n := m) (fun i σ Hc => (∃ v4 v5, σ = [some (.ref a), some (.ref b), some (.ref c), some (.ref D), v4, v5]) ∧ Same H Hc ∧ Hc D = some (.lst (SV (bhS hs gs i)))) ⟨⟨_, _, rfl⟩, same_new hD, upd_same⟩ ?_ ?_⟩
    · rintro i σ Hc hi ⟨⟨v4, v5, rfl⟩, sm, hDc⟩
      rw [Int.zero_add]
      have fin : ∀ (vv : V) v5, vv = stV (bh1 hs i (gs.getD i none)) → (∃ v4 v5', [some (.ref a), some (.ref b), some (.ref c), some (.ref D), some (.int (i : Int)), v5] = [some (V.ref a), some (.ref b), some (.ref c), some (.ref D), v4, v5']) ∧ Same H (upd Hc D (.lst (SV (bhS hs gs i) ++ [vv]))) ∧ (upd Hc D (.lst (SV (bhS hs gs i) ++ [vv]))) D = some (.lst (SV (bhS hs gs (i + 1)))) := fun vv v5 e => ⟨⟨_, _, rfl⟩, same_put sm hD, by rw [upd_same, e, bhS_succ, sv_snoc]⟩
      have hz : (SV (bhS hs gs i)).length < sizeLine := by rw [List.length_map, bhS_len]; exact Nat.lt_of_lt_of_le (show i < 33 by omega) (by decide)
      refine ⟨_, rfl, _, rfl, b, _, _, _, rfl, rfl, SqT.of (sm _ _ hb), sv_at (by omega), _, rfl, ?_⟩
      refine ite2 (fun e => ?_) (fun e => ?_)
      · have e0 : st.getD i none = none := by
          cases z : st.getD i none with
          | none => rfl
          | some h => rw [z] at e; exact absurd (of_decide_eq_true e) (by intro y; cases y)
        refine ⟨_, rfl, .inl ⟨rfl, _, SqL.of hDc⟩, _, rfl, _, rfl, ite_t ?_⟩
        exact ⟨D, _, _, rfl, rfl, hDc, hz, fin _ _ (by rw [hn i hi e0]; rfl)⟩
      · refine ⟨_, rfl, _, rfl, c, _, _, _, rfl, rfl, SqT.of (sm _ _ hc), sv_at (by omega), _, rfl, _, rfl, a, _, _, _, rfl, rfl, SqT.of (sm _ _ ha), iv_at (by omega), scal_sv, ?_⟩
        refine ⟨_, rfl, .inl ⟨rfl, _, SqL.of hDc⟩, _, rfl, _, rfl, ?_⟩
        refine ite2 (fun e2 => ?_) (fun e2 => ?_)
        · exact ⟨D, _, _, rfl, rfl, hDc, hz, fin _ _ (by rw [← bh_val, if_pos (of_decide_eq_true e2)])⟩
        · exact ⟨_, rfl, _, rfl, c, _, _, _, rfl, rfl, SqT.of (sm _ _ hc), sv_at (by omega), D, _, _, rfl, rfl, hDc, hz, fin _ _ (by rw [← bh_val, if_neg (fun z => e2 (decide_eq_true z))])⟩
    · rintro σ Hc ⟨⟨v4, v5, rfl⟩, sm, hDc⟩
      refine ⟨_, rfl, D, _, rfl, .inl ⟨SqL.of hDc, fun r hr' => ?_⟩⟩
      exact q r _ (sm.trans (same_new hr')) (sm.free hr') upd_same
end
/-! ### lists of stands on the heap -/
abbrev Ys := List (Addr × List (Option Int))
def yr (ys : Ys) : List V := ys.map fun y => V.ref y.1
def yp (ys : Ys) : List (List (Option Int)) := ys.map (·.2)
def YO (H : Hp) (ys : Ys) : Prop := ∀ y ∈ ys, H y.1 = some (.tup (SV y.2))
theorem yr_append {a b : Ys} : yr (a ++ b) = yr a ++ yr b := List.map_append
theorem yp_append {a b : Ys} : yp (a ++ b) = yp a ++ yp b := List.map_append
theorem yr_len {a : Ys} : (yr a).length = a.length := List.length_map _
theorem yp_len {a : Ys} : (yp a).length = a.length := List.length_map _
theorem yr_get {ys : Ys} {i : Nat} {x : V} (h : (yr ys)[i]? = some x) : ∃ y, ys[i]? = some y ∧ x = .ref y.1 := by
  unfold yr at h
  rw [List.getElem?_map] at h
  cases e : ys[i]? with
  | none => rw [e] at h; cases h
  | some y => rw [e] at h; exact ⟨y, rfl, (Option.some.inj h).symm⟩
theorem YO.nil {H : Hp} : YO H [] := fun z hz => (nomatch hz)
theorem YO.same {H H' : Hp} {ys : Ys} (h : YO H ys) (s : Same H H') : YO H' ys := fun y hy => s _ _ (h y hy)
theorem YO.sameE {H H' : Hp} {p : Addr} {ys : Ys} (h : YO H ys) (s : SameE p H H') (hp : PotAt H p) : YO H' ys := fun y hy => s _ _ (h y hy) (hp.neT (h y hy))
theorem YO.putL {H : Hp} {D : Addr} {xs : List V} {o : HO} {ys : Ys} (h : YO H ys) (e : H D = some (.lst xs)) : YO (upd H D o) ys := fun y hy => by
  have := h y hy
  rw [upd_ne (by rintro rfl; rw [e] at this; cases this)]; exact this
theorem YO.putN {H : Hp} {D : Addr} {o : HO} {ys : Ys} (h : YO H ys) (e : H D = none) : YO (upd H D o) ys := h.same (same_new e)
theorem YO.append {H : Hp} {a b : Ys} (h : YO H a) (h' : YO H b) : YO H (a ++ b) := fun z hz => (List.mem_append.mp hz).elim (h z) (h' z)
theorem YO.one {H : Hp} {p : Addr} {u : List (Option Int)} (h : H p = some (.tup (SV u))) : YO H [(p, u)] := fun z hz => by rw [List.mem_singleton.mp hz]; exact h
section
variable {P : Program} {w : World} {K : PySem.W.Frag} {mg : Str → Option Value} {base : Heap}
theorem scSO : FnScope ["homes", "stand", "log"] ["homes", "stand", "log"] (defScope sSO) := ⟨rfl, rfl, rfl, by decide +kernel, rfl, by decide +kernel, by decide +kernel⟩
def spSO : Sp := fun vs H Q _ => ∃ (a l : Addr) (x : V) (hs : List Int) (ls : Ys) (m : Nat), vs = [.ref a, x, .ref l] ∧ H a = some (.tup (IV hs)) ∧ H l = some (.lst (yr ls)) ∧ YO H ls ∧ hs.length = m ∧ (∀ y ∈ ls, y.2.length = m) ∧ m ≤ 16 ∧ ls.length ≤ 600 ∧
  ∀ (r : Addr) (ts : Ys) (H' : Hp), Same H H' → H r = none → H' r = some (.lst (x :: yr ts)) → YO H' ts → yp ts = (yp ls).map (fun g => bhS hs g m) → Q (.ref r) H'
theorem ok_so {f : Addr} {fd : FuncData} (F : Fun K "stands_of" "stands_of" sSO f fd) (SB : Cal P w K mg base CX0 1 "stand_behind" ["homes", "handing"] spSB) : FnOk P w K mg base CX0 2 f fd ["homes", "stand", "log"] spSO := by
  refine F.ok scSO (fun vs H Q E h => ?_) (fun cdv A outer s H vs Q E hr h => ?_)
  · obtain ⟨a, l, x, hs, ls, m, rfl, _⟩ := h
    rfl
  · obtain ⟨a, l, x, hs, ls, m, rfl, ha, hl, yo, hm, gm, m16, l6, q⟩ := h
    refine' ⟨_, pss_one (ps_ret (pe_op op_cat (pe_lst (pa_cons (pv 1) pa_nil)) ?c)), ?_⟩
    case c =>
      refine' pe_comp (g := gName 0) (te := tCall spSB [] (fun _ _ _ => False) (tCons (tVar 1) (tCons (tVar 0) tNil))) (NB := ["handing", "homes"]) (src := [none, some 0]) (blk_of (by kernel_rfl)) rfl (pi_list (pv 2)) ?g ?t ?e
      case g => exact fun cl C s₃ H₃ fp => pg_name (i := 0) nbHHs rfl (Or.inl rfl) (Or.inr rfl)
      case t => exact fun cl C s₃ H₃ fp => pts_nil
      case e => exact fun cl C s₃ H₃ fp => pe_cal SB hr pass0 (pa_cons (pv 1) (pa_cons (pv 0) pa_nil))
    refine ⟨_, rfl, by show 1 ≤ sizeLine; decide, fun L1 hL1 => ?_⟩
    have sm1 : Same H (upd H L1 (.lst [x])) := same_new hL1
    have hL11 : (upd H L1 (.lst [x])) L1 = some (.lst [x]) := upd_same
    revert sm1 hL11
    generalize upd H L1 (.lst [x]) = H1
    intro sm1 hL11
    refine ⟨_, rfl, l, rfl, ⟨_, SqL.of (sm1 _ _ hl)⟩, fun D hD => ?_⟩
    have hD0 : H D = none := sm1.free hD
    refine comp_list (K := K) (a := l) (xs := yr ls) (fun i ys σ H2 => (∃ u, σ = [u, some (.ref a)]) ∧ Same H1 H2 ∧ H2 D = some (.lst ys) ∧ ∃ ts, ys = yr ts ∧ YO H2 ts ∧ yp ts = ((yp ls).take i).map (fun g => bhS hs g m)) ⟨⟨_, rfl⟩, same_new hD, upd_same, [], rfl, YO.nil, rfl⟩ (fun i ys σ H2 _ z => SqL.of (z.2.1 _ _ (sm1 _ _ hl))) ?_ ?_
    · rintro i v ys σ H2 Kt Kf hv ⟨⟨u, rfl⟩, sm2, hD2, ts, rfl, yo2, ep⟩ kt kf
      obtain ⟨y, hy, rfl⟩ := yr_get hv
      have hi : i < ls.length := (List.getElem?_eq_some_iff.mp hy).1
      have hym : y ∈ ls := List.mem_of_getElem? hy
      have e2 : (yp ls)[i]? = some y.2 := by unfold yp; rw [List.getElem?_map, hy]; rfl
      have tl : ts.length = i := by rw [← yp_len, ep, List.length_map, List.length_take, yp_len]; omega
      refine ⟨_, rfl, _, rfl, a, y.1, hs, y.2, m, rfl, sm2 _ _ (sm1 _ _ ha), sm2 _ _ (sm1 _ _ (yo y hym)), hm, gm y hym, m16, fun r H3 sm3 hr3 hr33 => ?_⟩
      have hD3 := sm3 _ _ hD2
      refine kt _ _ _ hD3 (by rw [yr_len, tl]; exact Nat.lt_of_lt_of_le (show i < 1000 by omega) (by decide)) ⟨⟨_, rfl⟩, same_put (sm2.trans sm3) hD, upd_same, ts ++ [(r, bhS hs y.2 m)], by rw [yr_append]; rfl, ((yo2.same sm3).append (YO.one hr33)).putL hD3, ?_⟩
      rw [yp_append, ep, List.take_add_one, e2, Option.toList_some, List.map_append]; rfl
    · rintro ys σ H2 ⟨_, sm2, hD2, ts, rfl, yo2, ep⟩
      rw [yr_len, ← yp_len, List.take_length] at ep
      have tl : ts.length = ls.length := by rw [← yp_len, ep, List.length_map, yp_len]
      refine ⟨L1, D, _, _, rfl, rfl, sm2 _ _ hL11, hD2, by rw [yr_len, tl]; exact Nat.le_trans (show _ ≤ 1000 by simp; omega) (by decide), fun r hr' => ?_⟩
      exact q r ts _ ((sm1.trans sm2).trans (same_new hr')) ((sm1.trans sm2).free hr') upd_same (yo2.putN hr') ep
end
end K51

set_option maxHeartbeats 1500000
namespace K51
open PySem L2
abbrev sWalk : Stmt := top 20
section
variable {P : Program} {w : World} {K : PySem.W.Frag} {mg : Str → Option Value} {base : Heap}
theorem scWalk : FnScope ["_law_pot_here", "_law_outs_here", "_law_homes_here", "_law_waits", "_law_size", "_law_stands", "_law_log", "_law_k"] ["_law_pot_here", "_law_outs_here", "_law_homes_here", "_law_waits", "_law_size"] (defScope sWalk) := ⟨rfl, rfl, rfl, by decide +kernel, rfl, by decide +kernel, by decide +kernel⟩
def spWalk : Sp := fun vs H Q _ => ∃ (p O a : Addr) (wt : Bool) (sz : Int) (as : List Addr) (n m : Nat) (T : List (Int × Int)) (hs : List Int), vs = [.ref p, .ref O, .ref a, .bl wt, .int sz] ∧ PotAt H p ∧ OutsAt p H O as n T ∧ Ties n T ∧ 1 ≤ n ∧ n ≤ 32 ∧ H a = some (.tup (IV hs)) ∧ hs.length = m ∧ m ≤ 16 ∧ 0 ≤ sz ∧ sz ≤ 500 ∧
  ∀ (r S L : Addr) (qs ls : Ys) (H' : Hp), SameE p H H' → PotAt H' p → H' r = some (.tup [.ref S, .ref L]) → H' S = some (.lst (yr qs)) → H' L = some (.lst (yr ls)) → H S = none → H L = none → S ≠ L → YO H' qs → YO H' ls → (∀ y ∈ ls, y.2.length = m) → (∃ b0 qs', qs = b0 :: qs' ∧ yp qs' = (yp ls).map (fun g => bhS hs g m)) → ls.length ≤ 500 → Q (.ref r) H'
theorem ok_walk {f : Addr} {fd : FuncData} (F : Fun K "_law_walked" "_law_walked" sWalk f fd) (B : Bl mg) (BE : Cal P w K mg base CX0 2 "_law_begun" ["_law_pot_here", "_law_outs_here", "_law_homes_here", "_law_waits"] spBegun) (HA : Cal P w K mg base CX0 2 "_law_handing" ["_law_pot_here", "_law_outs_here", "_law_stand", "_law_waits"] spHand)
    (BH : Cal P w K mg base CX0 1 "_law_behind" ["_law_homes_here", "_law_stand", "_law_handing_here"] spBeh) : FnOk P w K mg base CX0 3 f fd ["_law_pot_here", "_law_outs_here", "_law_homes_here", "_law_waits", "_law_size"] spWalk := by
  refine F.ok scWalk (fun vs H Q E h => ?_) (fun cdv A outer s H vs Q E hr h => ?_)
  · obtain ⟨p, O, a, wt, sz, as, n, m, T, hs, rfl, _⟩ := h
    rfl
  · obtain ⟨p, O, a, wt, sz, as, n, m, T, hs, rfl, hp, ou, ti, n1, n32, ha, hl, m16, z0, z5, q⟩ := h
    have hr1 : Room 1 (A.deeper (PyProof.Rows.envOfC "_law_walked" (defScope sWalk) s.heap.objs.size f cdv)) := hr.mono (by decide)
    refine' ⟨_, pss_cons (ps_set (i := 5) scWalk.nd rfl (Or.inl rfl) (pe_lst (pa_cons (pe_cal BE hr pass0 (pa_cons (pv 0) (pa_cons (pv 1) (pa_cons (pv 2) (pa_cons (pv 3) pa_nil))))) pa_nil)))
      (pss_cons (ps_set (i := 6) scWalk.nd rfl (Or.inl rfl) (pe_lst pa_nil))
      (pss_cons (ps_for PassesOwn.never rfl (pi_range1 rfl B.range (pa_cons (pv 4) pa_nil)) (pg_name (i := 7) scWalk.nd rfl (Or.inl rfl))
        (pss_cons (ps_expr (pe_bm PySem.F.plainAttrs_list PySem.F.slot_list_append PySem.F.type_list_append mt_append (pv 6) (pa_cons (pe_cal HA hr pass0 (pa_cons (pv 0) (pa_cons (pv 1) (pa_cons (pe_ix ix_list (pv 5) (pe_un un_neg pe_int) (fun _ _ => rfl)) (pa_cons (pv 3) pa_nil))))) pa_nil)))
        (pss_one (ps_expr (pe_bm PySem.F.plainAttrs_list PySem.F.slot_list_append PySem.F.type_list_append mt_append (pv 5) (pa_cons (pe_cal BH hr1 pass0 (pa_cons (pv 2) (pa_cons (pe_ix ix_list (pv 5) (pe_un un_neg pe_int) (fun _ _ => rfl)) (pa_cons (pe_ix ix_list (pv 6) (pe_un un_neg pe_int) (fun _ _ => rfl)) pa_nil)))) pa_nil))))))
      (pss_one (ps_ret (pe_tup (pa_cons (pv 5) (pa_cons (pv 6) pa_nil))))))), ?_⟩
    have nap : a ≠ p := hp.neT ha
    refine ⟨_, rfl, _, rfl, _, rfl, _, rfl, p, O, a, wt, as, n, T, hs, rfl, hp, ou, n1, n32, ha, by omega, fun b0 st0 H1 se1 pt1 hb0 hb01 sl0 so0 => ?_⟩
    refine ⟨by show 1 ≤ sizeLine; decide, fun S hS => ⟨by show 0 ≤ sizeLine; decide, fun L hL => ?_⟩⟩
    have hS0 : H S = none := se1.free pt1.full hS
    have hL1 : H1 L = none := (same_new hS).free hL
    have hL0 : H L = none := se1.free pt1.full hL1
    have nSL : S ≠ L := ne_of_none upd_same hL
    have nSp : S ≠ p := hp.ne hS0
    have nLp : L ≠ p := hp.ne hL0
    have sm2 : Same H1 (upd (upd H1 S (.lst [.ref b0])) L (.lst [])) := (same_new hS).trans (same_new hL)
    have hS2 : (upd (upd H1 S (.lst [.ref b0])) L (.lst [])) S = some (.lst (yr [(b0, st0)])) := by rw [upd_ne nSL]; exact upd_same
    have hL2 : (upd (upd H1 S (.lst [.ref b0])) L (.lst [])) L = some (.lst (yr [])) := upd_same
    dsimp only [gName]
    revert sm2 hS2 hL2
    generalize upd (upd H1 S (.lst [.ref b0])) L (.lst []) = H2
    intro sm2 hS2 hL2
    refine ⟨_, rfl, sz, rfl, by omega, by omega, for_range (lo := 0) (n := sz.toNat) (fun k σ Hc => (∃ v7, σ = [some (.ref p), some (.ref O), some (.ref a), some (.bl wt), some (.int sz), some (.ref S), some (.ref L), v7]) ∧ SameE p H Hc ∧ PotAt Hc p ∧ ∃ qs' ls bl sl, Hc S = some (.lst (yr ((b0, st0) :: qs'))) ∧ Hc L = some (.lst (yr ls)) ∧ YO Hc ((b0, st0) :: qs') ∧ YO Hc ls ∧ (∀ y ∈ ls, y.2.length = m) ∧ yp qs' = (yp ls).map (fun g => bhS hs g m) ∧ ls.length = k ∧ atI (yr ((b0, st0) :: qs')) (-1) = some (.ref bl) ∧ Hc bl = some (.tup (SV sl)) ∧ sl.length = m ∧ StOk n T wt sl) ?_ ?_ ?_⟩
    · exact ⟨⟨_, rfl⟩, se1.trans (SameE.of sm2), pt1.same sm2, [], [], b0, st0, hS2, hL2, YO.one (sm2 _ _ hb01), YO.nil, fun y hy => (nomatch hy), rfl, rfl, atI_last (xs := []) _, sm2 _ _ hb01, by omega, so0⟩
    · rintro k σ Hc hk ⟨⟨v7, rfl⟩, se, pt, qs', ls, bl, sl, hSc, hLc, yoS, yoL, lm, ep, lk, atl, hbl, sll, sol⟩
      refine ⟨_, rfl, .inl ⟨rfl, _, SqL.of hLc⟩, _, rfl, _, rfl, _, rfl, _, rfl, S, _, _, _, rfl, rfl, SqL.of hSc, atl, _, rfl, p, O, bl, wt, as, n, T, sl, rfl, pt, ou.sameE se, ti, n1, n32, hbl, by omega, sol, fun r1 hd H3 se3 pt3 hr1n hr13 hdl hno sod => ?_⟩
      have hL3 := se3 _ _ hLc nLp
      have hS3 := se3 _ _ hSc nSp
      have yoL3 := yoL.sameE se3 pt
      have yoS3 := yoS.sameE se3 pt
      have hbl3 := se3 _ _ hbl (pt.neT hbl)
      refine ⟨L, _, _, rfl, rfl, hL3, by rw [yr_len, lk]; exact Nat.lt_of_lt_of_le (show k < 1000 by omega) (by decide), ?_⟩
      have e4 : yr ls ++ [V.ref r1] = yr (ls ++ [(r1, hd)]) := by rw [yr_append]; rfl
      rw [e4]
      have hL4 : (upd H3 L (.lst (yr (ls ++ [(r1, hd)])))) L = some (.lst (yr (ls ++ [(r1, hd)]))) := upd_same
      have hS4 : (upd H3 L (.lst (yr (ls ++ [(r1, hd)])))) S = some (.lst (yr ((b0, st0) :: qs'))) := by rw [upd_ne nSL]; exact hS3
      have yoL4 : YO (upd H3 L (.lst (yr (ls ++ [(r1, hd)])))) (ls ++ [(r1, hd)]) := (yoL3.append (YO.one hr13)).putL hL3
      have yoS4 : YO (upd H3 L (.lst (yr (ls ++ [(r1, hd)])))) ((b0, st0) :: qs') := yoS3.putL hL3
      have hbl4 : (upd H3 L (.lst (yr (ls ++ [(r1, hd)])))) bl = some (.tup (SV sl)) := (YO.one hbl3).putL hL3 _ (List.mem_singleton.mpr rfl)
      have hr14 : (upd H3 L (.lst (yr (ls ++ [(r1, hd)])))) r1 = some (.tup (SV hd)) := (YO.one hr13).putL hL3 _ (List.mem_singleton.mpr rfl)
      have se4 : SameE p H (upd H3 L (.lst (yr (ls ++ [(r1, hd)])))) := sameE_put (se.trans se3) hL0
      have pt4 : PotAt (upd H3 L (.lst (yr (ls ++ [(r1, hd)])))) p := pt3.put nLp.symm
      revert hL4 hS4 yoL4 yoS4 hbl4 hr14 se4 pt4
      generalize upd H3 L (.lst (yr (ls ++ [(r1, hd)]))) = H4
      intro hL4 hS4 yoL4 yoS4 hbl4 hr14 se4 pt4
      have atr : atI (yr (ls ++ [(r1, hd)])) (-1) = some (.ref r1) := by rw [yr_append]; exact atI_last _ _
      refine ⟨_, rfl, .inl ⟨rfl, _, SqL.of hS4⟩, _, rfl, _, rfl, _, rfl, S, _, _, _, rfl, rfl, SqL.of hS4, atl, _, rfl, _, rfl, L, _, _, _, rfl, rfl, SqL.of hL4, atr, a, bl, r1, hs, sl, hd, m, rfl, se4 _ _ ha nap, hbl4, hr14, hl, sll, by omega, m16, fun j hj e => hno j (by omega) e, fun r2 H5 sm5 hr2n hr25 => ?_⟩
      have hS5 := sm5 _ _ hS4
      have ql : qs'.length = ls.length := by rw [← yp_len, ep, List.length_map, yp_len]
      have ql2 : ((b0, st0) :: qs').length < 1000 := by rw [List.length_cons]; omega
      refine ⟨S, _, _, rfl, rfl, hS5, by rw [yr_len]; exact Nat.lt_of_lt_of_le ql2 (by decide), ?_⟩
      have e6 : yr ((b0, st0) :: qs') ++ [V.ref r2] = yr ((b0, st0) :: (qs' ++ [(r2, bhS hs hd m)])) := by
        rw [← List.cons_append, yr_append]; rfl
      rw [e6]
      refine ⟨⟨_, rfl⟩, sameE_put (se4.trans (SameE.of sm5)) hS0, (pt4.same sm5).put nSp.symm, qs' ++ [(r2, bhS hs hd m)], ls ++ [(r1, hd)], r2, bhS hs hd m, upd_same, by rw [upd_ne nSL.symm]; exact sm5 _ _ hL4, ?_, (yoL4.same sm5).putL hS5, fun y hy => ?_, ?_, by rw [List.length_append, lk]; rfl, ?_, (YO.one hr25).putL hS5 _ (List.mem_singleton.mpr rfl), bhS_len, bhS_ok sod (by omega)⟩
      · rw [← List.cons_append]
        exact ((yoS4.same sm5).append (YO.one hr25)).putL hS5
      · rcases List.mem_append.mp hy with z | z
        · exact lm y z
        · rw [List.mem_singleton.mp z]; show hd.length = m; omega
      · rw [yp_append, ep, yp_append, List.map_append]; rfl
      · rw [← List.cons_append, yr_append]
        exact atI_last _ _
    · rintro σ Hc ⟨⟨v7, rfl⟩, se, pt, qs', ls, bl, sl, hSc, hLc, yoS, yoL, lm, ep, lk, atl, hbl, sll, sol⟩
      refine ⟨_, rfl, _, rfl, by show 2 ≤ sizeLine; decide, fun r hr' => ?_⟩
      exact q r S L ((b0, st0) :: qs') ls _ (se.trans (SameE.of (same_new hr'))) (pt.same (same_new hr')) upd_same (same_new hr' _ _ hSc) (same_new hr' _ _ hLc) hS0 hL0 nSL (yoS.putN hr') (yoL.putN hr') lm ⟨_, qs', rfl, ep⟩ (by omega)
end
end K51

set_option maxHeartbeats 1500000
namespace K51
open PySem L2
abbrev sRight : Stmt := top 21
abbrev sLaw : Stmt := top 22
theorem nbKS : (["_law_k", "_law_script"] : List Str).Nodup := by decide +kernel
theorem kit_list_list {K : PySem.W.Frag} : PySem.W.kitOne K (.type "list") (.type "list") = some true := by kernel_rfl
theorem allEq_flat : ∀ {xs : List V}, xs.all flatV = true → allEq eqV xs xs = true
  | [], _ => rfl
  | x :: xs, h => by
    rw [List.all_cons, Bool.and_eq_true] at h
    rw [allEq, allEq_flat h.2, Bool.and_true]
    cases x <;> first | rfl | (show (_ == _) = true; simp) | exact absurd (show false = true from h.1) Bool.false_ne_true
theorem yr_getD {ys : Ys} {i : Nat} (h : i < ys.length) : (yr ys).getD i .non = .ref ys[i].1 := by
  unfold yr
  rw [List.getD_eq_getElem?_getD, List.getElem?_map, List.getElem?_eq_getElem h]; rfl
theorem elEq_ys {X : Cx} {H : Hp} {ts qs : Ys} (h1 : YO H ts) (h2 : YO H qs) (e : yp ts = yp qs) : ∀ i, i < (yr ts).length → i < (yr qs).length → ElEq X H (fun _ _ => true) ((yr ts).getD i .non) ((yr qs).getD i .non) := by
  intro i hi hj
  rw [yr_len] at hi hj
  rw [yr_getD hi, yr_getD hj]
  have e2 : ts[i].2 = qs[i].2 := by
    have a1 : (yp ts)[i]? = some ts[i].2 := by unfold yp; rw [List.getElem?_map, List.getElem?_eq_getElem hi]; rfl
    have a2 : (yp qs)[i]? = some qs[i].2 := by unfold yp; rw [List.getElem?_map, List.getElem?_eq_getElem hj]; rfl
    rw [e, a2] at a1
    exact (Option.some.inj a1).symm
  exact elEq_tupT (xs := SV ts[i].2) (SqT.of (h1 _ (List.getElem_mem hi))) (SqT.of (by rw [e2]; exact h2 _ (List.getElem_mem hj))) flat_sv (allEq_flat flat_sv)
theorem ys_len {ts qs : Ys} (e : yp ts = yp qs) : (yr ts).length = (yr qs).length := by rw [yr_len, yr_len, ← yp_len, e, yp_len]
theorem sql_same {K : PySem.W.Frag} {H H' : Hp} {a : Addr} {xs : List V} (s : Same H H') (h : SqL K H a xs) : SqL K H' a xs := s.seq h
section
variable {P : Program} {w : World} {K : PySem.W.Frag} {mg : Str → Option Value} {base : Heap}
theorem scRight : FnScope ["_law_pot_here", "_law_waits", "_law_size", "_law_letters", "_law_many", "_law_ties", "_law_homes_here", "_law_stands", "_law_log", "_law_kept", "_law_told"] ["_law_pot_here"] (defScope sRight) := ⟨rfl, rfl, rfl, by decide +kernel, rfl, by decide +kernel, by decide +kernel⟩
def spRight : Sp := fun vs H Q _ => ∃ (p : Addr), vs = [.ref p] ∧ PotAt H p ∧ ∀ (H' : Hp), SameE p H H' → Q (.bl true) H'
theorem ok_right {f : Addr} {fd : FuncData} (F : Fun K "_law_right" "_law_right" sRight f fd) (B : Bl mg) (T0 : Cal P w K mg base CX0 1 "_law_take" ["_law_pot_here", "_law_many"] spTake) (GR : Cal P w K mg base CX0 5 "_law_ground" ["_law_pot_here", "_law_waits"] spGround) (OU : Cal P w K mg base CX0 1 "_law_outs" ["_law_many", "_law_ties"] spOuts)
    (HM : Cal P w K mg base CX0 2 "_law_homes" ["_law_pot_here", "_law_many", "_law_letters"] spHomes) (WA : Cal P w K mg base CX0 3 "_law_walked" ["_law_pot_here", "_law_outs_here", "_law_homes_here", "_law_waits", "_law_size"] spWalk) (SO : Cal P w K mg base CX0 2 "stands_of" ["homes", "stand", "log"] spSO) : FnOk P w K mg base CX0 6 f fd ["_law_pot_here"] spRight := by
  refine F.ok scRight (fun vs H Q E h => ?_) (fun cdv A outer s H vs Q E hr h => ?_)
  · obtain ⟨p, rfl, _⟩ := h
    rfl
  · obtain ⟨p, rfl, hp, q⟩ := h
    have hu : (A.deeper (PyProof.Rows.envOfC "_law_right" (defScope sRight) s.heap.objs.size f cdv)).units + 2 < cLine := by have := hr.un; omega
    have hr1 : Room 1 (A.deeper (PyProof.Rows.envOfC "_law_right" (defScope sRight) s.heap.objs.size f cdv)) := hr.mono (by decide)
    have hr2 : Room 2 (A.deeper (PyProof.Rows.envOfC "_law_right" (defScope sRight) s.heap.objs.size f cdv)) := hr.mono (by decide)
    have hr3 : Room 3 (A.deeper (PyProof.Rows.envOfC "_law_right" (defScope sRight) s.heap.objs.size f cdv)) := hr.mono (by decide)
    refine' ⟨_, pss_cons (ps_set (i := 1) scRight.nd rfl (Or.inl rfl) (pe_cmpR op_eq (pe_cal T0 hr1 pass0 (pa_cons (pv 0) (pa_cons pe_int pa_nil))) pe_int (nomark _)))
      (pss_cons (ps_set (i := 2) scRight.nd rfl (Or.inl rfl) (pe_cal T0 hr1 pass0 (pa_cons (pv 0) (pa_cons (pe_ix ix_list (pe_lst (pa_cons pe_int (pa_cons pe_int (pa_cons pe_int pa_nil)))) (pe_cal T0 hr1 pass0 (pa_cons (pv 0) (pa_cons pe_int pa_nil))) (fun _ _ => rfl)) pa_nil))))
      (pss_cons (ps_set (i := 3) scRight.nd rfl (Or.inl rfl) (pe_cal T0 hr1 pass0 (pa_cons (pv 0) (pa_cons pe_int pa_nil))))
      (pss_cons (ps_asg (pe_cal GR hr pass0 (pa_cons (pv 0) (pa_cons (pv 1) pa_nil))) (pg_tup (n := 2) rfl (pgs_cons (pg_name (i := 4) scRight.nd rfl (Or.inl rfl)) (pgs_cons (pg_name (i := 5) scRight.nd rfl (Or.inl rfl)) pgs_nil))))
      (pss_cons (ps_set (i := 6) scRight.nd rfl (Or.inl rfl) (pe_cal HM hr2 pass0 (pa_cons (pv 0) (pa_cons (pv 4) (pa_cons (pv 3) pa_nil)))))
      (pss_cons (ps_asg (pe_cal WA hr3 pass0 (pa_cons (pv 0) (pa_cons (pe_cal OU hr1 pass0 (pa_cons (pv 4) (pa_cons (pv 5) pa_nil))) (pa_cons (pv 6) (pa_cons (pv 1) (pa_cons (pv 2) pa_nil)))))) (pg_tup (n := 2) rfl (pgs_cons (pg_name (i := 7) scRight.nd rfl (Or.inl rfl)) (pgs_cons (pg_name (i := 8) scRight.nd rfl (Or.inl rfl)) pgs_nil))))
      (pss_cons (ps_set (i := 9) scRight.nd rfl (Or.inl rfl) (pe_callTy call_list_of (by rfl) B.lst PyProof.Rows.boot_list (pa_cons (pv 8) pa_nil)))
      (pss_cons (ps_set (i := 10) scRight.nd rfl (Or.inl rfl) (pe_cal SO hr2 pass0 (pa_cons (pv 6) (pa_cons (pe_ix ix_list (pv 7) pe_int (fun _ _ => rfl)) (pa_cons (pv 8) pa_nil)))))
      (pss_cons (ps_if (PW.pt (pw_or (pt_not (pt_val (pe_callB call_isi (by rfl) B.isi PyProof.Rows.boot_isinstance (pa_cons (pv 10) (pa_cons (pe_bltn (v := .ty "list") rfl B.lst PyProof.Rows.boot_list rfl) pa_nil))))) (pw_or (pt_cmpR (op_neL (e := fun _ _ => true) hu) (pv 10) (pv 7) (nomark _)) (pw_or1 (pt_cmpR (op_neL (e := fun _ _ => true) hu) (pv 8) (pv 9) (nomark _)))))) (pss_one (ps_ret pe_bl)) pss_nil)
      (pss_cons (ps_expr (pe_bm PySem.F.plainAttrs_list PySem.F.slot_list_append PySem.F.type_list_append mt_append (pv 10) (pa_cons (pv 6) pa_nil)))
      (pss_cons (ps_asg pe_non (pg_sub (pv 10) pe_int set_list))
      (pss_cons (ps_expr (pe_bm PySem.F.plainAttrs_list PySem.F.slot_list_append PySem.F.type_list_append mt_append (pv 8) (pa_cons (pv 6) pa_nil)))
      (pss_one (ps_ret (pe_cmpR (op_eqL (e := fun _ _ => true) hu) (pe_cal SO hr2 pass0 (pa_cons (pv 6) (pa_cons (pe_ix ix_list (pv 7) pe_int (fun _ _ => rfl)) (pa_cons (pv 9) pa_nil)))) (pv 7) (nomark _))))))))))))))), ?_⟩
    refine ⟨_, rfl, p, _, rfl, by decide, by decide, hp, fun d1 H1 _ _ se1 pt1 => ⟨rfl, ?_⟩⟩
    dsimp only [gName]
    generalize decide (V.int d1 = V.int 2) = wt
    refine ⟨_, rfl, by show 3 ≤ sizeLine; decide, fun L0 hL0 => ⟨_, rfl, p, _, rfl, by decide, by decide, pt1.same (same_new hL0), fun d2 H2 e20 e23 se2 pt2 => ?_⟩⟩
    have nLp : L0 ≠ p := pt1.ne hL0
    obtain ⟨dv, hd1, hd2, hdv⟩ : ∃ dv : Int, 1 ≤ dv ∧ dv ≤ 501 ∧ atI [V.int 7, V.int 61, V.int 501] d2 = some (.int dv) := by
      rcases (by omega : d2 = 0 ∨ d2 = 1 ∨ d2 = 2) with e | e | e
      · subst e; exact ⟨7, by decide, by decide, atI_nat (j := 0) rfl⟩
      · subst e; exact ⟨61, by decide, by decide, atI_nat (j := 1) rfl⟩
      · subst e; exact ⟨501, by decide, by decide, atI_nat (j := 2) rfl⟩
    refine ⟨L0, _, _, _, rfl, rfl, SqL.of (se2 _ _ upd_same nLp), hdv, p, _, rfl, by omega, by omega, pt2, fun sz H3 z0 z1 se3 pt3 => ?_⟩
    refine ⟨_, rfl, p, _, rfl, by decide, by decide, pt3, fun lt H4 l0 l1 se4 pt4 => ?_⟩
    have se4' : SameE p H H4 := (((se1.trans (SameE.of (same_new hL0))).trans se2).trans se3).trans se4
    refine ⟨_, rfl, _, rfl, p, wt, rfl, pt4, fun r5 TL n zs H5 se5 pt5 hr5 hTL hTL5 po5 ti5 zl5 n1 n32 => ?_⟩
    refine ⟨_, _, rfl, SqT.of hr5, rfl, _, _, rfl, _, _, rfl, rfl, ?_⟩
    obtain ⟨nn, rfl⟩ : ∃ nn : Nat, (nn : Int) = n := ⟨n.toNat, by omega⟩
    refine ⟨_, rfl, _, rfl, _, rfl, p, _, lt, rfl, pt5, n1, n32, l0, by omega, fun a hs H6 se6 pt6 ha6 ha66 hl6 => ?_⟩
    have nTLp : TL ≠ p := pt4.ne hTL
    have hTL6 := se6 _ _ hTL5 nTLp
    refine ⟨_, rfl, _, rfl, _, rfl, TL, nn, zs, rfl, hTL6, po5.sameE se6 pt5, ti5, zl5, by omega, by omega, fun O as H7 sm7 hO7 has7 hOO al rows => ?_⟩
    have pt7 := pt6.same sm7
    have ou7 : OutsAt p H7 O as nn (zp zs) := ⟨hOO, al, rows, pt6.ne hO7, fun h hh => pt6.ne (has7 h hh)⟩
    have ha7 := sm7 _ _ ha66
    refine ⟨_, rfl, _, rfl, _, rfl, p, O, a, wt, sz, as, nn, hs.length, zp zs, hs, rfl, pt7, ou7, ti5, by omega, by omega, ha7, rfl, by omega, z0, by omega, fun r8 S L qs ls H8 se8 pt8 hr8 hS8 hL8 hS7 hL7 nSL yoS yoL lm hq ll => ?_⟩
    obtain ⟨b0, qs', rfl, ep⟩ := hq
    have nap : a ≠ p := pt7.neT ha7
    have ha8 := se8 _ _ ha7 nap
    have se8' : SameE p H H8 := (((se4'.trans se5).trans se6).trans (SameE.of sm7)).trans se8
    refine ⟨_, _, rfl, SqT.of hr8, rfl, _, _, rfl, _, _, rfl, rfl, ?_⟩
    refine ⟨_, rfl, L, _, rfl, .inl (SqL.of hL8), fun KP hKP => ?_⟩
    have sm9 : Same H8 (upd H8 KP (.lst (yr ls))) := same_new hKP
    have hKP9 : (upd H8 KP (.lst (yr ls))) KP = some (.lst (yr ls)) := upd_same
    have nKL : KP ≠ L := (ne_of_none hL8 hKP).symm
    have nKS : KP ≠ S := (ne_of_none hS8 hKP).symm
    dsimp only [gName]
    revert sm9 hKP9
    generalize upd H8 KP (.lst (yr ls)) = H9
    intro sm9 hKP9
    have at0 : atI (yr (b0 :: qs')) 0 = some (.ref b0.1) := atI_nat (j := 0) rfl
    refine ⟨_, rfl, _, rfl, S, _, _, _, rfl, rfl, SqL.of (sm9 _ _ hS8), at0, _, rfl, a, L, .ref b0.1, hs, ls, hs.length, rfl, sm9 _ _ ha8, sm9 _ _ hL8, yoL.same sm9, rfl, lm, by omega, by omega, fun TD ts H10 sm10 hTD hTD10 yoT et => ?_⟩
    have sm10' := sm9.trans sm10
    have hS10 := sm10' _ _ hS8
    have hL10 := sm10' _ _ hL8
    have hK10 := sm10 _ _ hKP9
    have yoS10 := yoS.same sm10'
    have yoL10 := yoL.same sm10'
    have yb : H10 b0.1 = some (.tup (SV b0.2)) := yoS10 b0 List.mem_cons_self
    have yoT' : YO H10 (b0 :: ts) := fun y hy => by
      rcases List.mem_cons.mp hy with z | z
      · rw [z]; exact yb
      · exact yoT y z
    have eT : yp (b0 :: ts) = yp (b0 :: qs') := by
      show b0.2 :: yp ts = b0.2 :: yp qs'
      rw [et, ep]
    have hT10 : H10 TD = some (.lst (yr (b0 :: ts))) := hTD10
    have nTDS : TD ≠ S := (ne_of_none (sm9 _ _ hS8) hTD).symm
    have nTDL : TD ≠ L := (ne_of_none (sm9 _ _ hL8) hTD).symm
    have nTDK : TD ≠ KP := (ne_of_none hKP9 hTD).symm
    dsimp only [gName]
    refine seq_k (fun σ Hc => σ = [some (.ref p), some (.bl wt), some (.int sz), some (.int lt), some (.int nn), some (.ref TL), some (.ref a), some (.ref S), some (.ref L), some (.ref KP), some (.ref TD)] ∧ H10 = Hc) ?_ ?_
    rotate_left
    · intro N nN
      refine if_k (fun Hk => False) (fun Hk => H10 = Hk) (fun Hk z => z.elim) ?_ ?_
      · rintro _ rfl
        exact nN _ _ ⟨rfl, rfl⟩
      · intro Y N' yy nn'
        refine ⟨_, rfl, _, _, _, .type "list", true, rfl, ⟨rfl, kit_list_list⟩, .of (.lst hT10), true, rfl, ite_f ?_⟩
        refine ⟨_, rfl, _, rfl, TD, S, _, _, rfl, rfl, SqL.of hT10, SqL.of hS10, elEq_ys yoT' yoS10 eT, _, rfl, ?_⟩
        rw [allEq_true (ys_len eT)]
        refine ite_f ?_
        refine ⟨_, rfl, _, rfl, L, KP, _, _, rfl, rfl, SqL.of hL10, SqL.of hK10, elEq_ys yoL10 yoL10 rfl, _, rfl, ?_⟩
        rw [allEq_true rfl]
        exact ite_f (nn' _ rfl)
    rintro σ _ ⟨rfl, rfl⟩
    have tl : ts.length ≤ 500 := by rw [← yp_len, et, List.length_map, yp_len]; exact ll
    refine ⟨_, rfl, .inl ⟨rfl, _, SqL.of hT10⟩, _, rfl, TD, _, _, rfl, rfl, hT10, by rw [yr_len]; exact Nat.lt_of_lt_of_le (show (b0 :: ts).length < 1000 by rw [List.length_cons]; omega) (by decide), ?_⟩
    refine ⟨_, rfl, TD, _, 0, 0, rfl, rfl, upd_same, ixN_nat (j := 0) (by rw [List.length_append]; simp), ?_⟩
    rw [upd_upd]
    have sameL : ∀ {o o' : HO} {b u : _}, H10 b = some u → b ≠ TD → b ≠ L → (upd (upd H10 TD o) L o') b = some u := fun {o o' b u} e n1 n2 => by rw [upd_ne n2, upd_ne n1]; exact e
    refine ⟨_, rfl, .inl ⟨rfl, _, SqL.of (by rw [upd_ne nTDL.symm]; exact hL10)⟩, _, rfl, L, _, _, rfl, rfl, by rw [upd_ne nTDL.symm]; exact hL10, by rw [yr_len]; exact Nat.lt_of_lt_of_le (show ls.length < 1000 by omega) (by decide), ?_⟩
    have hS11 : ∀ o o', (upd (upd H10 TD o) L o') S = some (.lst (yr (b0 :: qs'))) := fun o o' => sameL hS10 nTDS.symm nSL
    have hK11 : ∀ o o', (upd (upd H10 TD o) L o') KP = some (.lst (yr ls)) := fun o o' => sameL hK10 nTDK.symm nKL
    have ha11 : ∀ o o', (upd (upd H10 TD o) L o') a = some (.tup (IV hs)) := fun o o' => by
      have h10 := sm10' _ _ ha8
      exact sameL h10 (by rintro rfl; rw [hT10] at h10; cases h10) (by rintro rfl; rw [hL10] at h10; cases h10)
    have yoL11 : ∀ o o', YO (upd (upd H10 TD o) L o') ls := fun o o' => (yoL10.putL hT10).putL (xs := yr ls) (by rw [upd_ne nTDL.symm]; exact hL10)
    have yoS11 : ∀ o o', YO (upd (upd H10 TD o) L o') (b0 :: qs') := fun o o' => (yoS10.putL hT10).putL (xs := yr ls) (by rw [upd_ne nTDL.symm]; exact hL10)
    have seo : ∀ o o', SameE p H8 (upd (upd H10 TD o) L o') → SameE p H (upd (upd H10 TD o) L o') := fun o o' z => se8'.trans z
    have hLH : H L = none := (((se4'.trans se5).trans se6).trans (SameE.of sm7)).free pt7.full hL7
    have hTDH : H TD = none := se8'.free pt8.full (sm9.free hTD)
    have se11 : ∀ o o', SameE p H (upd (upd H10 TD o) L o') := fun o o' => sameE_put (sameE_put (se8'.trans (SameE.of sm10')) hTDH) hLH
    refine ⟨_, rfl, _, rfl, S, _, _, _, rfl, rfl, SqL.of (hS11 _ _), at0, _, rfl, a, KP, .ref b0.1, hs, ls, hs.length, rfl, ha11 _ _, hK11 _ _, yoL11 _ _, rfl, lm, by omega, by omega, fun T2 ts2 H12 sm12 hT2 hT212 yoT2 et2 => ?_⟩
    have yoS12 := (yoS11 _ _).same sm12
    have eT2 : yp (b0 :: ts2) = yp (b0 :: qs') := by
      show b0.2 :: yp ts2 = b0.2 :: yp qs'
      rw [et2, ep]
    have yoT2' : YO H12 (b0 :: ts2) := fun y hy => by
      rcases List.mem_cons.mp hy with z | z
      · rw [z]; exact yoS12 b0 List.mem_cons_self
      · exact yoT2 y z
    refine ⟨_, rfl, T2, S, _, _, rfl, rfl, SqL.of (show H12 T2 = some (.lst (yr (b0 :: ts2))) from hT212), SqL.of (sm12 _ _ (hS11 _ _)), elEq_ys yoT2' yoS12 eT2, ?_⟩
    rw [allEq_true (ys_len eT2)]
    exact q _ ((se11 _ _).trans (SameE.of sm12))
theorem scLaw : FnScope ["_law_script"] ["_law_script"] (defScope sLaw) := ⟨rfl, rfl, rfl, by decide +kernel, rfl, by decide +kernel, by decide +kernel⟩
def spLaw (K : PySem.W.Frag) : Sp := fun vs H Q _ => ∃ (a : Addr) (ns : List Int), vs = [.ref a] ∧ SqL K H a (ns.map V.int) ∧ ∀ H', Q (.bl true) H'
theorem ok_law {f : Addr} {fd : FuncData} (F : Fun K "law" "law" sLaw f fd) (B : Bl mg) (PP : Cal P w K mg base CX0 1 "_law_pot" ["_law_script", "_law_k"] (spPot K)) (RI : Cal P w K mg base CX0 6 "_law_right" ["_law_pot_here"] spRight) : FnOk P w K mg base CX0 7 f fd ["_law_script"] (spLaw K) := by
  refine F.ok scLaw (fun vs H Q E h => ?_) (fun cdv A outer s H vs Q E hr h => ?_)
  · obtain ⟨a, ns, rfl, _⟩ := h
    rfl
  · obtain ⟨a, ns, rfl, hS, q⟩ := h
    have hr1 : Room 1 (A.deeper (PyProof.Rows.envOfC "law" (defScope sLaw) s.heap.objs.size f cdv)) := hr.mono (by decide)
    refine' ⟨_, pss_one (ps_ret (pe_callB (call_allB rfl) (by rfl) B.all PyProof.Rows.boot_all (pa_cons ?c pa_nil))), ?_⟩
    case c =>
      refine' pe_comp (g := gName 0) (te := tCall spRight [] (fun _ _ _ => False) (tCons (tCall (spPot K) [] (fun _ _ _ => False) (tCons (tVar 1) (tCons (tVar 0) tNil))) tNil)) (NB := ["_law_k", "_law_script"]) (src := [none, some 0]) (blk_of (by kernel_rfl)) rfl
        (pi_range1 rfl B.range (pa_cons (pe_callB (call_max2 rfl) (by rfl) B.max PyProof.Rows.boot_max (pa_cons pe_int (pa_cons (pe_callB (call_min2 rfl) (by rfl) B.min PyProof.Rows.boot_min (pa_cons pe_int (pa_cons (pe_callB call_len_seq (by rfl) B.len PySem.boot_len (pa_cons (pv 0) pa_nil)) pa_nil))) pa_nil))) pa_nil)) ?g ?t ?e
      case g => exact fun cl C s₃ H₃ fp => pg_name (i := 0) nbKS rfl (Or.inl rfl) (Or.inr rfl)
      case t => exact fun cl C s₃ H₃ fp => pts_nil
      case e => exact fun cl C s₃ H₃ fp => pe_cal RI hr pass0 (pa_cons (pe_cal PP hr1 pass0 (pa_cons (pv 1) (pa_cons (pv 0) pa_nil))) pa_nil)
    refine ⟨_, rfl, a, _, rfl, .inl hS, _, _, rfl, _, _, rfl, _, rfl, ?_, ?_, fun D hD => ?_⟩
    · split <;> split <;> omega
    · split <;> split <;> omega
    have hcnt : (if (if (((ns.map V.int).length : Nat) : Int) < 3 then (((ns.map V.int).length : Nat) : Int) else 3) > 1 then (if (((ns.map V.int).length : Nat) : Int) < 3 then (((ns.map V.int).length : Nat) : Int) else 3) else 1).toNat ≤ 3 := by split <;> split <;> omega
    refine comp_range (lo := 0) (fun k ys σ Hc => (∃ u, σ = [u, some (.ref a)]) ∧ Same H Hc ∧ Hc D = some (.lst ys) ∧ ∃ bs : List Bool, ys = bs.map V.bl ∧ bs.length = k ∧ bs.all id = true) ⟨⟨_, rfl⟩, same_new hD, upd_same, [], rfl, rfl, rfl⟩ ?_ ?_
    · rintro k ys σ Hc Kt Kf hk ⟨⟨u, rfl⟩, sm, hDc, bs, rfl, bl, ba⟩ kt kf
      rw [Int.zero_add]
      have k3 : k < 3 := Nat.lt_of_lt_of_le hk hcnt
      refine ⟨_, rfl, _, rfl, a, ns, k, rfl, sql_same sm hS, by omega, fun p H1 sm1 hp0 po1 => ?_⟩
      refine ⟨p, rfl, po1, fun H2 se2 => ?_⟩
      have sm2 : Same Hc H2 := fun b o e => se2 _ _ (sm1 _ _ e) (ne_of_none e hp0)
      exact kt _ _ _ (sm2 _ _ hDc) (by rw [List.length_map, bl]; exact Nat.lt_of_lt_of_le (show k < 33 by omega) (by decide)) ⟨⟨_, rfl⟩, same_put (sm.trans sm2) hD, upd_same, bs ++ [true], by rw [List.map_append]; rfl, by rw [List.length_append, bl]; rfl, by rw [List.all_append, ba]; rfl⟩
    · rintro ys σ Hc ⟨_, sm, hDc, bs, rfl, bl, ba⟩
      refine ⟨D, bs, rfl, SqL.of hDc, ?_⟩
      rw [ba]
      exact q _
end
end K51

set_option maxHeartbeats 4000000
namespace K51
open PySem L2
theorem all_mk {l : PySem.W.OpenLaw} {w : World} {K : PySem.W.Frag} {h : Heap} {mg : Str → Option Value} {fa : Addr} (X : K.In h) (G : h.Ns mainGlobals mg) (hfa : mg "law" = some (.ref fa))
    {f_sb f_so f_pot f_take f_sides f_box f_tree f_more f_cyc f_one f_net f_ground f_outs f_homes f_begun f_hand f_beh f_walk f_right f_law : Addr}
    {od_sb an_sb od_so an_so od_pot an_pot od_take an_take od_sides an_sides od_box an_box od_tree an_tree od_more an_more od_cyc an_cyc od_one an_one od_net an_net od_ground an_ground od_outs an_outs od_homes an_homes od_begun an_begun od_hand an_hand od_beh an_beh od_walk an_walk od_right an_right od_law an_law : Option Addr}
    {sl_sb sl_so sl_pot sl_take sl_sides sl_box sl_tree sl_more sl_cyc sl_one sl_net sl_ground sl_outs sl_homes sl_begun sl_hand sl_beh sl_walk sl_right sl_law : Array (Option Value)}
    {oc_sb kV_sb dc_sb pm_sb ct_sb cd_sb oc_so kV_so dc_so pm_so ct_so cd_so oc_pot kV_pot dc_pot pm_pot ct_pot cd_pot oc_take kV_take dc_take pm_take ct_take cd_take oc_sides kV_sides dc_sides pm_sides ct_sides cd_sides oc_box kV_box dc_box pm_box ct_box cd_box oc_tree kV_tree dc_tree pm_tree ct_tree cd_tree oc_more kV_more dc_more pm_more ct_more cd_more oc_cyc kV_cyc dc_cyc pm_cyc ct_cyc cd_cyc oc_one kV_one dc_one pm_one ct_one cd_one oc_net kV_net dc_net pm_net ct_net cd_net oc_ground kV_ground dc_ground pm_ground ct_ground cd_ground oc_outs kV_outs dc_outs pm_outs ct_outs cd_outs oc_homes kV_homes dc_homes pm_homes ct_homes cd_homes oc_begun kV_begun dc_begun pm_begun ct_begun cd_begun oc_hand kV_hand dc_hand pm_hand ct_hand cd_hand oc_beh kV_beh dc_beh pm_beh ct_beh cd_beh oc_walk kV_walk dc_walk pm_walk ct_walk cd_walk oc_right kV_right dc_right pm_right ct_right cd_right oc_law kV_law dc_law pm_law ct_law cd_law : Value}
    (a_sb : PySem.W.nsIn K mainGlobals "stand_behind" = some (some (.ref f_sb)))
    (l_sb : K.lookup f_sb = some ⟨oc_sb, od_sb, .func (PySem.W.fnOf "stand_behind" "stand_behind" (defArgs sSB) (defBody sSB) (defScope sSB) .none kV_sb dc_sb pm_sb an_sb cd_sb ct_sb), sl_sb⟩)
    (d_sb : PySem.W.codeIn K cd_sb "stand_behind" = true)
    (k_sb : PySem.W.keepIn K (.ref f_sb) = true)
    (a_so : PySem.W.nsIn K mainGlobals "stands_of" = some (some (.ref f_so)))
    (l_so : K.lookup f_so = some ⟨oc_so, od_so, .func (PySem.W.fnOf "stands_of" "stands_of" (defArgs sSO) (defBody sSO) (defScope sSO) .none kV_so dc_so pm_so an_so cd_so ct_so), sl_so⟩)
    (d_so : PySem.W.codeIn K cd_so "stands_of" = true)
    (k_so : PySem.W.keepIn K (.ref f_so) = true)
    (a_pot : PySem.W.nsIn K mainGlobals "_law_pot" = some (some (.ref f_pot)))
    (l_pot : K.lookup f_pot = some ⟨oc_pot, od_pot, .func (PySem.W.fnOf "_law_pot" "_law_pot" (defArgs sPot) (defBody sPot) (defScope sPot) .none kV_pot dc_pot pm_pot an_pot cd_pot ct_pot), sl_pot⟩)
    (d_pot : PySem.W.codeIn K cd_pot "_law_pot" = true)
    (k_pot : PySem.W.keepIn K (.ref f_pot) = true)
    (a_take : PySem.W.nsIn K mainGlobals "_law_take" = some (some (.ref f_take)))
    (l_take : K.lookup f_take = some ⟨oc_take, od_take, .func (PySem.W.fnOf "_law_take" "_law_take" (defArgs sTake) (defBody sTake) (defScope sTake) .none kV_take dc_take pm_take an_take cd_take ct_take), sl_take⟩)
    (d_take : PySem.W.codeIn K cd_take "_law_take" = true)
    (k_take : PySem.W.keepIn K (.ref f_take) = true)
    (a_sides : PySem.W.nsIn K mainGlobals "_law_sides" = some (some (.ref f_sides)))
    (l_sides : K.lookup f_sides = some ⟨oc_sides, od_sides, .func (PySem.W.fnOf "_law_sides" "_law_sides" (defArgs sSides) (defBody sSides) (defScope sSides) .none kV_sides dc_sides pm_sides an_sides cd_sides ct_sides), sl_sides⟩)
    (d_sides : PySem.W.codeIn K cd_sides "_law_sides" = true)
    (k_sides : PySem.W.keepIn K (.ref f_sides) = true)
    (a_box : PySem.W.nsIn K mainGlobals "_law_box_pairs" = some (some (.ref f_box)))
    (l_box : K.lookup f_box = some ⟨oc_box, od_box, .func (PySem.W.fnOf "_law_box_pairs" "_law_box_pairs" (defArgs sBox) (defBody sBox) (defScope sBox) .none kV_box dc_box pm_box an_box cd_box ct_box), sl_box⟩)
    (d_box : PySem.W.codeIn K cd_box "_law_box_pairs" = true)
    (k_box : PySem.W.keepIn K (.ref f_box) = true)
    (a_tree : PySem.W.nsIn K mainGlobals "_law_tree_pairs" = some (some (.ref f_tree)))
    (l_tree : K.lookup f_tree = some ⟨oc_tree, od_tree, .func (PySem.W.fnOf "_law_tree_pairs" "_law_tree_pairs" (defArgs sTree) (defBody sTree) (defScope sTree) .none kV_tree dc_tree pm_tree an_tree cd_tree ct_tree), sl_tree⟩)
    (d_tree : PySem.W.codeIn K cd_tree "_law_tree_pairs" = true)
    (k_tree : PySem.W.keepIn K (.ref f_tree) = true)
    (a_more : PySem.W.nsIn K mainGlobals "_law_more_pairs" = some (some (.ref f_more)))
    (l_more : K.lookup f_more = some ⟨oc_more, od_more, .func (PySem.W.fnOf "_law_more_pairs" "_law_more_pairs" (defArgs sMore) (defBody sMore) (defScope sMore) .none kV_more dc_more pm_more an_more cd_more ct_more), sl_more⟩)
    (d_more : PySem.W.codeIn K cd_more "_law_more_pairs" = true)
    (k_more : PySem.W.keepIn K (.ref f_more) = true)
    (a_cyc : PySem.W.nsIn K mainGlobals "_law_cycle" = some (some (.ref f_cyc)))
    (l_cyc : K.lookup f_cyc = some ⟨oc_cyc, od_cyc, .func (PySem.W.fnOf "_law_cycle" "_law_cycle" (defArgs sCyc) (defBody sCyc) (defScope sCyc) .none kV_cyc dc_cyc pm_cyc an_cyc cd_cyc ct_cyc), sl_cyc⟩)
    (d_cyc : PySem.W.codeIn K cd_cyc "_law_cycle" = true)
    (k_cyc : PySem.W.keepIn K (.ref f_cyc) = true)
    (a_one : PySem.W.nsIn K mainGlobals "_law_one_way" = some (some (.ref f_one)))
    (l_one : K.lookup f_one = some ⟨oc_one, od_one, .func (PySem.W.fnOf "_law_one_way" "_law_one_way" (defArgs sOne) (defBody sOne) (defScope sOne) .none kV_one dc_one pm_one an_one cd_one ct_one), sl_one⟩)
    (d_one : PySem.W.codeIn K cd_one "_law_one_way" = true)
    (k_one : PySem.W.keepIn K (.ref f_one) = true)
    (a_net : PySem.W.nsIn K mainGlobals "_law_net" = some (some (.ref f_net)))
    (l_net : K.lookup f_net = some ⟨oc_net, od_net, .func (PySem.W.fnOf "_law_net" "_law_net" (defArgs sNet) (defBody sNet) (defScope sNet) .none kV_net dc_net pm_net an_net cd_net ct_net), sl_net⟩)
    (d_net : PySem.W.codeIn K cd_net "_law_net" = true)
    (k_net : PySem.W.keepIn K (.ref f_net) = true)
    (a_ground : PySem.W.nsIn K mainGlobals "_law_ground" = some (some (.ref f_ground)))
    (l_ground : K.lookup f_ground = some ⟨oc_ground, od_ground, .func (PySem.W.fnOf "_law_ground" "_law_ground" (defArgs sGround) (defBody sGround) (defScope sGround) .none kV_ground dc_ground pm_ground an_ground cd_ground ct_ground), sl_ground⟩)
    (d_ground : PySem.W.codeIn K cd_ground "_law_ground" = true)
    (k_ground : PySem.W.keepIn K (.ref f_ground) = true)
    (a_outs : PySem.W.nsIn K mainGlobals "_law_outs" = some (some (.ref f_outs)))
    (l_outs : K.lookup f_outs = some ⟨oc_outs, od_outs, .func (PySem.W.fnOf "_law_outs" "_law_outs" (defArgs sOuts) (defBody sOuts) (defScope sOuts) .none kV_outs dc_outs pm_outs an_outs cd_outs ct_outs), sl_outs⟩)
    (d_outs : PySem.W.codeIn K cd_outs "_law_outs" = true)
    (k_outs : PySem.W.keepIn K (.ref f_outs) = true)
    (a_homes : PySem.W.nsIn K mainGlobals "_law_homes" = some (some (.ref f_homes)))
    (l_homes : K.lookup f_homes = some ⟨oc_homes, od_homes, .func (PySem.W.fnOf "_law_homes" "_law_homes" (defArgs sHomes) (defBody sHomes) (defScope sHomes) .none kV_homes dc_homes pm_homes an_homes cd_homes ct_homes), sl_homes⟩)
    (d_homes : PySem.W.codeIn K cd_homes "_law_homes" = true)
    (k_homes : PySem.W.keepIn K (.ref f_homes) = true)
    (a_begun : PySem.W.nsIn K mainGlobals "_law_begun" = some (some (.ref f_begun)))
    (l_begun : K.lookup f_begun = some ⟨oc_begun, od_begun, .func (PySem.W.fnOf "_law_begun" "_law_begun" (defArgs sBegun) (defBody sBegun) (defScope sBegun) .none kV_begun dc_begun pm_begun an_begun cd_begun ct_begun), sl_begun⟩)
    (d_begun : PySem.W.codeIn K cd_begun "_law_begun" = true)
    (k_begun : PySem.W.keepIn K (.ref f_begun) = true)
    (a_hand : PySem.W.nsIn K mainGlobals "_law_handing" = some (some (.ref f_hand)))
    (l_hand : K.lookup f_hand = some ⟨oc_hand, od_hand, .func (PySem.W.fnOf "_law_handing" "_law_handing" (defArgs sHand) (defBody sHand) (defScope sHand) .none kV_hand dc_hand pm_hand an_hand cd_hand ct_hand), sl_hand⟩)
    (d_hand : PySem.W.codeIn K cd_hand "_law_handing" = true)
    (k_hand : PySem.W.keepIn K (.ref f_hand) = true)
    (a_beh : PySem.W.nsIn K mainGlobals "_law_behind" = some (some (.ref f_beh)))
    (l_beh : K.lookup f_beh = some ⟨oc_beh, od_beh, .func (PySem.W.fnOf "_law_behind" "_law_behind" (defArgs sBeh) (defBody sBeh) (defScope sBeh) .none kV_beh dc_beh pm_beh an_beh cd_beh ct_beh), sl_beh⟩)
    (d_beh : PySem.W.codeIn K cd_beh "_law_behind" = true)
    (k_beh : PySem.W.keepIn K (.ref f_beh) = true)
    (a_walk : PySem.W.nsIn K mainGlobals "_law_walked" = some (some (.ref f_walk)))
    (l_walk : K.lookup f_walk = some ⟨oc_walk, od_walk, .func (PySem.W.fnOf "_law_walked" "_law_walked" (defArgs sWalk) (defBody sWalk) (defScope sWalk) .none kV_walk dc_walk pm_walk an_walk cd_walk ct_walk), sl_walk⟩)
    (d_walk : PySem.W.codeIn K cd_walk "_law_walked" = true)
    (k_walk : PySem.W.keepIn K (.ref f_walk) = true)
    (a_right : PySem.W.nsIn K mainGlobals "_law_right" = some (some (.ref f_right)))
    (l_right : K.lookup f_right = some ⟨oc_right, od_right, .func (PySem.W.fnOf "_law_right" "_law_right" (defArgs sRight) (defBody sRight) (defScope sRight) .none kV_right dc_right pm_right an_right cd_right ct_right), sl_right⟩)
    (d_right : PySem.W.codeIn K cd_right "_law_right" = true)
    (k_right : PySem.W.keepIn K (.ref f_right) = true)
    (a_law : PySem.W.nsIn K mainGlobals "law" = some (some (.ref f_law)))
    (l_law : K.lookup f_law = some ⟨oc_law, od_law, .func (PySem.W.fnOf "law" "law" (defArgs sLaw) (defBody sLaw) (defScope sLaw) .none kV_law dc_law pm_law an_law cd_law ct_law), sl_law⟩)
    (d_law : PySem.W.codeIn K cd_law "law" = true)
    (k_law : PySem.W.keepIn K (.ref f_law) = true)
    (z_isinstance : PySem.W.nsIn K mainGlobals "isinstance" = some none)
    (z_int : PySem.W.nsIn K mainGlobals "int" = some none)
    (z_list : PySem.W.nsIn K mainGlobals "list" = some none)
    (z_tuple : PySem.W.nsIn K mainGlobals "tuple" = some none)
    (z_len : PySem.W.nsIn K mainGlobals "len" = some none)
    (z_range : PySem.W.nsIn K mainGlobals "range" = some none)
    (z_all : PySem.W.nsIn K mainGlobals "all" = some none)
    (z_abs : PySem.W.nsIn K mainGlobals "abs" = some none)
    (z_max : PySem.W.nsIn K mainGlobals "max" = some none)
    (z_min : PySem.W.nsIn K mainGlobals "min" = some none)
    (z_sorted : PySem.W.nsIn K mainGlobals "sorted" = some none)
    (z_zip : PySem.W.nsIn K mainGlobals "zip" = some none) :
    ∃ fd : FuncData, (∀ (s : Shared) (v : Value), BindsTo s fd ⟨[v], []⟩ [("_law_script", v)]) ∧ ∀ base : Heap, K.In base → base.Ns mainGlobals mg → FnOk l.prog w K mg base CX0 7 fa fd ["_law_script"] (spLaw K) := by
  have e := hfa.symm.trans (PySem.W.mg_of X G a_law)
  cases e
  have B : Bl mg := ⟨PySem.W.mg_none_of X G z_isinstance, PySem.W.mg_none_of X G z_int, PySem.W.mg_none_of X G z_list, PySem.W.mg_none_of X G z_tuple, PySem.W.mg_none_of X G z_len, PySem.W.mg_none_of X G z_range, PySem.W.mg_none_of X G z_all, PySem.W.mg_none_of X G z_abs, PySem.W.mg_none_of X G z_max, PySem.W.mg_none_of X G z_min, PySem.W.mg_none_of X G z_sorted, PySem.W.mg_none_of X G z_zip⟩
  have F_sb := fun_mk (x := "stand_behind") (qual := "stand_behind") (st := sSB) l_sb d_sb k_sb
  have b_sb := F_sb.binds (ps := ["homes", "handing"]) fun _ _ _ _ _ _ us hl => match us, hl with | [_, _], _ => rfl
  have F_so := fun_mk (x := "stands_of") (qual := "stands_of") (st := sSO) l_so d_so k_so
  have b_so := F_so.binds (ps := ["homes", "stand", "log"]) fun _ _ _ _ _ _ us hl => match us, hl with | [_, _, _], _ => rfl
  have F_pot := fun_mk (x := "_law_pot") (qual := "_law_pot") (st := sPot) l_pot d_pot k_pot
  have b_pot := F_pot.binds (ps := ["_law_script", "_law_k"]) fun _ _ _ _ _ _ us hl => match us, hl with | [_, _], _ => rfl
  have F_take := fun_mk (x := "_law_take") (qual := "_law_take") (st := sTake) l_take d_take k_take
  have b_take := F_take.binds (ps := ["_law_pot_here", "_law_many"]) fun _ _ _ _ _ _ us hl => match us, hl with | [_, _], _ => rfl
  have F_sides := fun_mk (x := "_law_sides") (qual := "_law_sides") (st := sSides) l_sides d_sides k_sides
  have b_sides := F_sides.binds (ps := ["_law_pot_here"]) fun _ _ _ _ _ _ us hl => match us, hl with | [_], _ => rfl
  have F_box := fun_mk (x := "_law_box_pairs") (qual := "_law_box_pairs") (st := sBox) l_box d_box k_box
  have b_box := F_box.binds (ps := ["_law_sides_here"]) fun _ _ _ _ _ _ us hl => match us, hl with | [_], _ => rfl
  have F_tree := fun_mk (x := "_law_tree_pairs") (qual := "_law_tree_pairs") (st := sTree) l_tree d_tree k_tree
  have b_tree := F_tree.binds (ps := ["_law_pot_here", "_law_many"]) fun _ _ _ _ _ _ us hl => match us, hl with | [_, _], _ => rfl
  have F_more := fun_mk (x := "_law_more_pairs") (qual := "_law_more_pairs") (st := sMore) l_more d_more k_more
  have b_more := F_more.binds (ps := ["_law_pot_here", "_law_many", "_law_pairs"]) fun _ _ _ _ _ _ us hl => match us, hl with | [_, _, _], _ => rfl
  have F_cyc := fun_mk (x := "_law_cycle") (qual := "_law_cycle") (st := sCyc) l_cyc d_cyc k_cyc
  have b_cyc := F_cyc.binds (ps := ["_law_pot_here", "_law_many", "_law_size"]) fun _ _ _ _ _ _ us hl => match us, hl with | [_, _, _], _ => rfl
  have F_one := fun_mk (x := "_law_one_way") (qual := "_law_one_way") (st := sOne) l_one d_one k_one
  have b_one := F_one.binds (ps := ["_law_pot_here", "_law_many"]) fun _ _ _ _ _ _ us hl => match us, hl with | [_, _], _ => rfl
  have F_net := fun_mk (x := "_law_net") (qual := "_law_net") (st := sNet) l_net d_net k_net
  have b_net := F_net.binds (ps := ["_law_pot_here"]) fun _ _ _ _ _ _ us hl => match us, hl with | [_], _ => rfl
  have F_ground := fun_mk (x := "_law_ground") (qual := "_law_ground") (st := sGround) l_ground d_ground k_ground
  have b_ground := F_ground.binds (ps := ["_law_pot_here", "_law_waits"]) fun _ _ _ _ _ _ us hl => match us, hl with | [_, _], _ => rfl
  have F_outs := fun_mk (x := "_law_outs") (qual := "_law_outs") (st := sOuts) l_outs d_outs k_outs
  have b_outs := F_outs.binds (ps := ["_law_many", "_law_ties"]) fun _ _ _ _ _ _ us hl => match us, hl with | [_, _], _ => rfl
  have F_homes := fun_mk (x := "_law_homes") (qual := "_law_homes") (st := sHomes) l_homes d_homes k_homes
  have b_homes := F_homes.binds (ps := ["_law_pot_here", "_law_many", "_law_letters"]) fun _ _ _ _ _ _ us hl => match us, hl with | [_, _, _], _ => rfl
  have F_begun := fun_mk (x := "_law_begun") (qual := "_law_begun") (st := sBegun) l_begun d_begun k_begun
  have b_begun := F_begun.binds (ps := ["_law_pot_here", "_law_outs_here", "_law_homes_here", "_law_waits"]) fun _ _ _ _ _ _ us hl => match us, hl with | [_, _, _, _], _ => rfl
  have F_hand := fun_mk (x := "_law_handing") (qual := "_law_handing") (st := sHand) l_hand d_hand k_hand
  have b_hand := F_hand.binds (ps := ["_law_pot_here", "_law_outs_here", "_law_stand", "_law_waits"]) fun _ _ _ _ _ _ us hl => match us, hl with | [_, _, _, _], _ => rfl
  have F_beh := fun_mk (x := "_law_behind") (qual := "_law_behind") (st := sBeh) l_beh d_beh k_beh
  have b_beh := F_beh.binds (ps := ["_law_homes_here", "_law_stand", "_law_handing_here"]) fun _ _ _ _ _ _ us hl => match us, hl with | [_, _, _], _ => rfl
  have F_walk := fun_mk (x := "_law_walked") (qual := "_law_walked") (st := sWalk) l_walk d_walk k_walk
  have b_walk := F_walk.binds (ps := ["_law_pot_here", "_law_outs_here", "_law_homes_here", "_law_waits", "_law_size"]) fun _ _ _ _ _ _ us hl => match us, hl with | [_, _, _, _, _], _ => rfl
  have F_right := fun_mk (x := "_law_right") (qual := "_law_right") (st := sRight) l_right d_right k_right
  have b_right := F_right.binds (ps := ["_law_pot_here"]) fun _ _ _ _ _ _ us hl => match us, hl with | [_], _ => rfl
  have F_law := fun_mk (x := "law") (qual := "law") (st := sLaw) l_law d_law k_law
  have b_law := F_law.binds (ps := ["_law_script"]) fun _ _ _ _ _ _ us hl => match us, hl with | [_], _ => rfl
  refine ⟨PySem.W.fnOf "law" "law" (defArgs sLaw) (defBody sLaw) (defScope sLaw) .none kV_law dc_law pm_law an_law cd_law ct_law, fun s v => .of_eq rfl, fun base kb nb => ?_⟩
  have C_sb : Cal l.prog w K mg base CX0 1 "stand_behind" ["homes", "handing"] spSB := ⟨⟨f_sb, _, PySem.W.mg_of X G a_sb, k_sb, b_sb, ok_sb F_sb B⟩⟩
  have C_so : Cal l.prog w K mg base CX0 2 "stands_of" ["homes", "stand", "log"] spSO := ⟨⟨f_so, _, PySem.W.mg_of X G a_so, k_so, b_so, ok_so F_so C_sb⟩⟩
  have C_pot : Cal l.prog w K mg base CX0 1 "_law_pot" ["_law_script", "_law_k"] (spPot K) := ⟨⟨f_pot, _, PySem.W.mg_of X G a_pot, k_pot, b_pot, ok_pot F_pot B⟩⟩
  have C_take : Cal l.prog w K mg base CX0 1 "_law_take" ["_law_pot_here", "_law_many"] spTake := ⟨⟨f_take, _, PySem.W.mg_of X G a_take, k_take, b_take, ok_take F_take⟩⟩
  have C_sides : Cal l.prog w K mg base CX0 2 "_law_sides" ["_law_pot_here"] spSides := ⟨⟨f_sides, _, PySem.W.mg_of X G a_sides, k_sides, b_sides, ok_sides F_sides B C_take⟩⟩
  have C_box : Cal l.prog w K mg base CX0 1 "_law_box_pairs" ["_law_sides_here"] spBox := ⟨⟨f_box, _, PySem.W.mg_of X G a_box, k_box, b_box, ok_box F_box B⟩⟩
  have C_tree : Cal l.prog w K mg base CX0 2 "_law_tree_pairs" ["_law_pot_here", "_law_many"] spTree := ⟨⟨f_tree, _, PySem.W.mg_of X G a_tree, k_tree, b_tree, ok_tree F_tree B C_take⟩⟩
  have C_more : Cal l.prog w K mg base CX0 2 "_law_more_pairs" ["_law_pot_here", "_law_many", "_law_pairs"] spMore := ⟨⟨f_more, _, PySem.W.mg_of X G a_more, k_more, b_more, ok_more F_more B C_take⟩⟩
  have C_cyc : Cal l.prog w K mg base CX0 2 "_law_cycle" ["_law_pot_here", "_law_many", "_law_size"] spCyc := ⟨⟨f_cyc, _, PySem.W.mg_of X G a_cyc, k_cyc, b_cyc, ok_cyc F_cyc B C_take⟩⟩
  have C_one : Cal l.prog w K mg base CX0 3 "_law_one_way" ["_law_pot_here", "_law_many"] spOne := ⟨⟨f_one, _, PySem.W.mg_of X G a_one, k_one, b_one, ok_one F_one B C_take C_cyc⟩⟩
  have C_net : Cal l.prog w K mg base CX0 4 "_law_net" ["_law_pot_here"] spNet := ⟨⟨f_net, _, PySem.W.mg_of X G a_net, k_net, b_net, ok_net F_net B C_take C_sides C_box C_tree C_more C_one⟩⟩
  have C_ground : Cal l.prog w K mg base CX0 5 "_law_ground" ["_law_pot_here", "_law_waits"] spGround := ⟨⟨f_ground, _, PySem.W.mg_of X G a_ground, k_ground, b_ground, ok_ground F_ground B C_sides C_box C_net⟩⟩
  have C_outs : Cal l.prog w K mg base CX0 1 "_law_outs" ["_law_many", "_law_ties"] spOuts := ⟨⟨f_outs, _, PySem.W.mg_of X G a_outs, k_outs, b_outs, ok_outs F_outs B⟩⟩
  have C_homes : Cal l.prog w K mg base CX0 2 "_law_homes" ["_law_pot_here", "_law_many", "_law_letters"] spHomes := ⟨⟨f_homes, _, PySem.W.mg_of X G a_homes, k_homes, b_homes, ok_homes F_homes B C_take⟩⟩
  have C_begun : Cal l.prog w K mg base CX0 2 "_law_begun" ["_law_pot_here", "_law_outs_here", "_law_homes_here", "_law_waits"] spBegun := ⟨⟨f_begun, _, PySem.W.mg_of X G a_begun, k_begun, b_begun, ok_begun F_begun B C_take⟩⟩
  have C_hand : Cal l.prog w K mg base CX0 2 "_law_handing" ["_law_pot_here", "_law_outs_here", "_law_stand", "_law_waits"] spHand := ⟨⟨f_hand, _, PySem.W.mg_of X G a_hand, k_hand, b_hand, ok_hand F_hand B C_take⟩⟩
  have C_beh : Cal l.prog w K mg base CX0 1 "_law_behind" ["_law_homes_here", "_law_stand", "_law_handing_here"] spBeh := ⟨⟨f_beh, _, PySem.W.mg_of X G a_beh, k_beh, b_beh, ok_beh F_beh B⟩⟩
  have C_walk : Cal l.prog w K mg base CX0 3 "_law_walked" ["_law_pot_here", "_law_outs_here", "_law_homes_here", "_law_waits", "_law_size"] spWalk := ⟨⟨f_walk, _, PySem.W.mg_of X G a_walk, k_walk, b_walk, ok_walk F_walk B C_begun C_hand C_beh⟩⟩
  have C_right : Cal l.prog w K mg base CX0 6 "_law_right" ["_law_pot_here"] spRight := ⟨⟨f_right, _, PySem.W.mg_of X G a_right, k_right, b_right, ok_right F_right B C_take C_ground C_outs C_homes C_walk C_so⟩⟩
  exact ok_law F_law B C_pot C_right
theorem walk {l : PySem.W.OpenLaw} {q : Program} {loose : List Str} {XP : (Str → Option Value) → Heap → Prop} {YP : World → Heap → Prop} {d : DefRec} {K : Params → PySem.W.Frag} (hn : l.most = some 63) (hdf : d.params.defaults = [])
    (hY : ∀ (w : World) (h : Heap), YP w h → (K w.params).In h)
    (F : ∀ (w : World) (mg : Str → Option Value) (fa : Addr) (h : Heap), (K w.params).In h → h.Ns mainGlobals mg → mg d.name = some (.ref fa) →
      ∃ fd : FuncData, (∀ (s : Shared) (u : Value), BindsTo s fd ⟨[u], []⟩ [("_law_script", u)]) ∧ ∀ base : Heap, (K w.params).In base → base.Ns mainGlobals mg → FnOk l.prog w (K w.params) mg base CX0 7 fa fd ["_law_script"] (spLaw (K w.params))) :
    PySem.W.WalkO q loose XP YP l.row.toRowW d [] (fun f vs => PySem.call f vs) :=
  walk_of (n := 63) (k := 7) (x := "_law_script") (K := K) (CX := fun _ => CX0) (sp := fun w => spLaw (K w.params)) hn (by decide) hdf ⟨rfl, by decide, by decide⟩ hY F
    (fun w H a ns hl hO hS => ⟨a, ns, rfl, hS, fun _ => rfl⟩) fun _ _ _ _ _ z => z
end K51

open PySem PySem.W PyProof.Rows
set_option maxRecDepth 100000 in
set_option maxHeartbeats 0 in
theorem PySem.Challenge.cw_neverwait_k51_stands_of_a_log_holds : PySem.Challenge.rw_neverwait_k51_stands_of_a_log.Holds := by
  w_on; o_law; k_head; (case hw => w_witness2)
  k_fill
  refine K51.walk (l := PySem.Challenge.rw_neverwait_k51_stands_of_a_log) rfl rfl (fun w h Y => PySem.W.kIn_of Y) ?F
  case F =>
    intro w mg fa h KX G hmg
    refine' K51.all_mk KX G hmg ?a_sb ?l_sb ?d_sb ?k_sb ?a_so ?l_so ?d_so ?k_so ?a_pot ?l_pot ?d_pot ?k_pot ?a_take ?l_take ?d_take ?k_take ?a_sides ?l_sides ?d_sides ?k_sides ?a_box ?l_box ?d_box ?k_box ?a_tree ?l_tree ?d_tree ?k_tree ?a_more ?l_more ?d_more ?k_more ?a_cyc ?l_cyc ?d_cyc ?k_cyc ?a_one ?l_one ?d_one ?k_one ?a_net ?l_net ?d_net ?k_net ?a_ground ?l_ground ?d_ground ?k_ground ?a_outs ?l_outs ?d_outs ?k_outs ?a_homes ?l_homes ?d_homes ?k_homes ?a_begun ?l_begun ?d_begun ?k_begun ?a_hand ?l_hand ?d_hand ?k_hand ?a_beh ?l_beh ?d_beh ?k_beh ?a_walk ?l_walk ?d_walk ?k_walk ?a_right ?l_right ?d_right ?k_right ?a_law ?l_law ?d_law ?k_law ?z_isinstance ?z_int ?z_list ?z_tuple ?z_len ?z_range ?z_all ?z_abs ?z_max ?z_min ?z_sorted ?z_zip
    (case a_sb => k_is)
    (case l_sb => k_is)
    (case d_sb => k_is)
    (case k_sb => k_is)
    (case a_so => k_is)
    (case l_so => k_is)
    (case d_so => k_is)
    (case k_so => k_is)
    (case a_pot => k_is)
    (case l_pot => k_is)
    (case d_pot => k_is)
    (case k_pot => k_is)
    (case a_take => k_is)
    (case l_take => k_is)
    (case d_take => k_is)
    (case k_take => k_is)
    (case a_sides => k_is)
    (case l_sides => k_is)
    (case d_sides => k_is)
    (case k_sides => k_is)
    (case a_box => k_is)
    (case l_box => k_is)
    (case d_box => k_is)
    (case k_box => k_is)
    (case a_tree => k_is)
    (case l_tree => k_is)
    (case d_tree => k_is)
    (case k_tree => k_is)
    (case a_more => k_is)
    (case l_more => k_is)
    (case d_more => k_is)
    (case k_more => k_is)
    (case a_cyc => k_is)
    (case l_cyc => k_is)
    (case d_cyc => k_is)
    (case k_cyc => k_is)
    (case a_one => k_is)
    (case l_one => k_is)
    (case d_one => k_is)
    (case k_one => k_is)
    (case a_net => k_is)
    (case l_net => k_is)
    (case d_net => k_is)
    (case k_net => k_is)
    (case a_ground => k_is)
    (case l_ground => k_is)
    (case d_ground => k_is)
    (case k_ground => k_is)
    (case a_outs => k_is)
    (case l_outs => k_is)
    (case d_outs => k_is)
    (case k_outs => k_is)
    (case a_homes => k_is)
    (case l_homes => k_is)
    (case d_homes => k_is)
    (case k_homes => k_is)
    (case a_begun => k_is)
    (case l_begun => k_is)
    (case d_begun => k_is)
    (case k_begun => k_is)
    (case a_hand => k_is)
    (case l_hand => k_is)
    (case d_hand => k_is)
    (case k_hand => k_is)
    (case a_beh => k_is)
    (case l_beh => k_is)
    (case d_beh => k_is)
    (case k_beh => k_is)
    (case a_walk => k_is)
    (case l_walk => k_is)
    (case d_walk => k_is)
    (case k_walk => k_is)
    (case a_right => k_is)
    (case l_right => k_is)
    (case d_right => k_is)
    (case k_right => k_is)
    (case a_law => k_is)
    (case l_law => k_is)
    (case d_law => k_is)
    (case k_law => k_is)
    (case z_isinstance => k_is)
    (case z_int => k_is)
    (case z_list => k_is)
    (case z_tuple => k_is)
    (case z_len => k_is)
    (case z_range => k_is)
    (case z_all => k_is)
    (case z_abs => k_is)
    (case z_max => k_is)
    (case z_min => k_is)
    (case z_sorted => k_is)
    (case z_zip => k_is)

