import PyProof.Rows.All
import Wide.All
import OpenK.AllK
import Wide.FinOn
import Lean
import PyProof.EqAt
import PyProof.EqKinds
import PyProof.TupleCall
import PySem.Challenge.RW_neverwait_k19_refusals_alone
set_option Elab.async false
set_option linter.all false
set_option maxRecDepth 100000
/-! THE HAND LAYER, for ints, bools, texts, own classes, LISTS and tuples (index, slices, in, append, pop ..), calls, loops. Paste it whole ahead of your own text; what your proof does not reach may be deleted. -/
namespace L2
open PySem PySem.Spec PyProof.Rows

/-- a key: an int or a str -/
abbrev Key := Sum Int Str
def keyIs : Key → Value → Bool
  | .inl k, v => Value.isInt k v
  | .inr x, v => Value.isStrOf x v
def keyH (w : World) : Key → Int
  | .inl k => hashInt k
  | .inr x => hashStr w x
theorem keyIs_shape : ∀ {k : Key} {v : Value}, keyIs k v = true → (∃ i t, k = Sum.inl i ∧ v = Value.int i t) ∨ (∃ x t, k = Sum.inr x ∧ v = Value.str x t)
  | .inl i, v, h => by
    obtain ⟨t, e⟩ := Value.isInt_shape (k := i) (v := v) h
    exact .inl ⟨i, t, rfl, e⟩
  | .inr x, v, h => by
    obtain ⟨t, e⟩ := Value.isStrOf_shape (x := x) (v := v) h
    exact .inr ⟨x, t, rfl, e⟩
theorem keyIs_int (i : Int) (t : Tok) : keyIs (.inl i) (.int i t) = true := by simp [keyIs, Value.isInt]
theorem keyIs_str (x : Str) (t : Tok) : keyIs (.inr x) (.str x t) = true := by simp [keyIs, Value.isStrOf]
theorem key_ll (a b : Int) : decide ((Sum.inl a : Key) = Sum.inl b) = (a == b) := by
  by_cases e : a = b
  · subst e; simp
  · have h : ¬ (Sum.inl a : Key) = Sum.inl b := fun q => e (Sum.inl.inj q)
    rw [decide_eq_false h]
    exact (beq_eq_false_iff_ne.mpr e).symm
theorem key_rr (a b : Str) : decide ((Sum.inr a : Key) = Sum.inr b) = decide (a = b) := by
  by_cases e : a = b
  · subst e; simp
  · have h : ¬ (Sum.inr a : Key) = Sum.inr b := fun q => e (Sum.inr.inj q)
    rw [decide_eq_false h, decide_eq_false e]
theorem key_lr (a : Int) (b : Str) : decide ((Sum.inl a : Key) = Sum.inr b) = false := decide_eq_false (fun q => nomatch q)
theorem key_rl (a : Str) (b : Int) : decide ((Sum.inr a : Key) = Sum.inl b) = false := decide_eq_false (fun q => nomatch q)

def mixKind (prog : Program) (w : World) : PySem.KeyKind prog w Key where
  is := keyIs
  hash := keyH w
  inj := fun v a b ha hb => by
    rcases keyIs_shape ha with ⟨i, t, rfl, rfl⟩ | ⟨x, t, rfl, rfl⟩
    · rcases keyIs_shape hb with ⟨j, u, rfl, e⟩ | ⟨y, u, rfl, e⟩
      · injection e with e1 _; rw [e1]
      · exact nomatch e
    · rcases keyIs_shape hb with ⟨j, u, rfl, e⟩ | ⟨y, u, rfl, e⟩
      · exact nomatch e
      · injection e with e1 _; rw [e1]
  byValue := fun k v h => by
    rcases keyIs_shape h with ⟨i, t, rfl, rfl⟩ | ⟨x, t, rfl, rfl⟩ <;> rfl
  pyHash := fun hv h => by
    rcases keyIs_shape hv with ⟨i, t, rfl, rfl⟩ | ⟨x, t, rfl, rfl⟩
    · exact wpAny_pyHash_int h
    · exact wpAny_pyHash_str h
  eqBool := fun hu hv h => by
    rcases keyIs_shape hu with ⟨i, t, rfl, rfl⟩ | ⟨x, t, rfl, rfl⟩
    · rcases keyIs_shape hv with ⟨j, u, rfl, rfl⟩ | ⟨y, u, rfl, rfl⟩
      · rw [key_ll] at h; exact wpAny_eqBool_int h
      · rw [key_lr] at h; exact SeqAt.EqAt.int_str i t y u _ _ _ _ h
    · rcases keyIs_shape hv with ⟨j, u, rfl, rfl⟩ | ⟨y, u, rfl, rfl⟩
      · rw [key_rl] at h; exact SeqAt.EqAt.str_int x t j u _ _ _ _ h
      · rw [key_rr] at h; exact wpAny_eqBool_str h
  «strs» := fun k x t v h => by
    rcases keyIs_shape h with ⟨i, u, rfl, e⟩ | ⟨y, u, rfl, e⟩
    · exact nomatch e
    · injection e with e1 _
      subst e1
      cases v <;> rfl

theorem mixKind_is (prog : Program) (w : World) (k : Key) (v : Value) : (mixKind prog w).is k v = keyIs k v := rfl
theorem mixKind_int (prog : Program) (w : World) (i : Int) (t : Tok) : (mixKind prog w).is (.inl i) (.int i t) = true := keyIs_int i t
theorem mixKind_str (prog : Program) (w : World) (x : Str) (t : Tok) : (mixKind prog w).is (.inr x) (.str x t) = true := keyIs_str x t
end L2

namespace L2
open PySem PySem.Spec PyProof.Rows

/-- a value, without the heap -/
inductive V where
  | non | bl (b : Bool) | int (i : Int) | str (x : Str) | byt (b : Array UInt8) | flt (b : UInt64) | ref (a : Addr) | ty (n : String)
  deriving DecidableEq

def RelV : V → Value → Prop
  | .non, u => u = Value.none
  | .bl b, u => u = Value.bool b
  | .int i, u => ∃ t, u = Value.int i t
  | .str x, u => ∃ t, u = Value.str x t
  | .byt b, u => ∃ t, u = Value.bytes b t
  | .flt b, u => ∃ t, u = Value.float b t
  | .ref a, u => u = Value.ref a
  | .ty n, u => u = Value.type n

abbrev Vals : List V → List Value → Prop := Paired RelV
theorem Vals.length {xs : List V} {us : List Value} (r : Vals xs us) : xs.length = us.length := Paired.length r
theorem Vals.get : ∀ {xs : List V} {us : List Value} {i : Nat} {x : V}, Vals xs us → xs[i]? = some x → ∃ u, us[i]? = some u ∧ RelV x u
  | _, _, _, _, .nil, e => by simp at e
  | _, _, 0, _, .cons r _, e => by simp at e; subst e; exact ⟨_, rfl, r⟩
  | _, _, i + 1, x, .cons _ t, e => by
    obtain ⟨u, h1, h2⟩ := Vals.get (i := i) (x := x) t (by simpa using e)
    exact ⟨u, by simpa using h1, h2⟩
theorem Vals.set {x : V} {u : Value} (r : RelV x u) : ∀ {xs : List V} {us : List Value} (i : Nat), Vals xs us → Vals (xs.set i x) (us.set i u)
  | _, _, _, .nil => .nil
  | _, _, 0, .cons _ t => .cons r t
  | _, _, i + 1, .cons q t => .cons q (Vals.set r i t)
theorem Vals.append : ∀ {xs ys : List V} {us ws : List Value}, Vals xs us → Vals ys ws → Vals (xs ++ ys) (us ++ ws)
  | _, _, _, _, .nil, s => s
  | _, _, _, _, .cons r t, s => .cons r (Vals.append t s)
theorem Vals.take : ∀ {xs : List V} {us : List Value} (n : Nat), Vals xs us → Vals (xs.take n) (us.take n)
  | _, _, 0, _ => .nil
  | _, _, _ + 1, .nil => .nil
  | _, _, n + 1, .cons r t => .cons r (Vals.take n t)
theorem Vals.drop : ∀ {xs : List V} {us : List Value} (n : Nat), Vals xs us → Vals (xs.drop n) (us.drop n)
  | _, _, 0, r => r
  | _, _, _ + 1, .nil => .nil
  | _, _, n + 1, .cons _ t => Vals.drop n t
theorem Vals.none_of : ∀ {xs : List V} {us : List Value} {i : Nat}, Vals xs us → xs[i]? = none → us[i]? = none := fun {xs us i} r e => by
  have h1 := r.length
  have h2 : xs.length ≤ i := List.getElem?_eq_none_iff.mp e
  exact List.getElem?_eq_none_iff.mpr (by omega)

def RelO : Option V → Option Value → Prop
  | some v, some u => RelV v u
  | none, none => True
  | _, _ => False
def KV {κ : Type} : List (κ × V) → List (κ × Value) → Prop := Paired fun (p : κ × V) (q : κ × Value) => p.1 = q.1 ∧ RelV p.2 q.2

/-- a key of a dict (00_mix): an int or a text -/
def kV : Key → V
  | .inl i => .int i
  | .inr x => .str x

/-- what stands at a tracked address -/
inductive HO where
  /-- a list -/
  | lst (xs : List V)
  /-- a tuple (never changes) -/
  | tup (xs : List V)
  /-- a dict whose keys are ints and texts; one whose keys are tuples of ints and texts (the empty one is both) -/
  | dK (kvs : List (Key × V)) | dT (kvs : List (List Key × V))
  /-- a set of ints: its members, its size -/
  | set (S : Int → Bool) (n : Nat)
  /-- an instance of the class at C, its dict at dx, its attributes -/
  | ins (C dx : Addr) (fs : List (Str × V))
  /-- the dict of the instance at x -/
  | own (x : Addr)
  /-- the dict of an exception -/
  | xd (fs : List (Str × V))
  /-- a bound method, f of x -/
  | met (f x : Addr)
  /-- a range object lo, lo + 1, .. below hi -/
  | rng (lo hi : Int)
  /-- a thing that is known to the object (the script; a dict while a loop walks it): read, never written while it is so -/
  | frz (o : Obj) (u : HO)
  /-- a code object's table -/
  | tbl (ps : Array Value)
  /-- any other thing, by what is true of its one object (a def of one's own: SetO a S n := HO.ext fun h => ..) -/
  | ext (φ : Heap → Prop)

abbrev Hp := Addr → Option HO
def upd (H : Hp) (a : Addr) (o : HO) : Hp := fun b => if b = a then some o else H b
theorem upd_same {H : Hp} {a : Addr} {o : HO} : upd H a o a = some o := by unfold upd; rw [if_pos rfl]
theorem upd_ne {H : Hp} {a b : Addr} {o : HO} (h : b ≠ a) : upd H a o b = H b := by unfold upd; rw [if_neg h]
theorem upd_upd {H : Hp} {a : Addr} {o u : HO} : upd (upd H a o) a u = upd H a u := by
  funext b; unfold upd; split <;> rfl
/-- two objects of different content stand apart -/
theorem ne_of {H : Hp} {a b : Addr} {o u : HO} (h : H a = some o) (h' : H b = some u) (d : o ≠ u) : a ≠ b := by
  intro e; subst e; rw [h] at h'; exact d (Option.some.inj h')
theorem ne_of_none {H : Hp} {a b : Addr} {o : HO} (h : H a = some o) (h' : H b = none) : a ≠ b := by
  intro e; subst e; rw [h] at h'; cases h'

section
variable (P : Program) (w : World)
def ObjOk (H : Hp) (h : Heap) (a : Addr) : HO → Prop
  | .lst xs => xs.length ≤ sizeLine ∧ ∃ (its : List Value) (n : Nat), Vals xs its ∧ h.get? a = some { cls := .type "list", data := .seq its.toArray n }
  | .tup xs => xs.length ≤ sizeLine ∧ ∃ its : List Value, Vals xs its ∧ IsTup h a its.toArray
  | .dK kvs => kvs.length ≤ sizeLine ∧ (a == sysModules) = false ∧ ∃ vs, KV kvs vs ∧ h.DictOf (mixKind P w) a vs
  | .dT kvs => kvs.length ≤ sizeLine ∧ (a == sysModules) = false ∧ ∃ xs : List (List Key × Addr × Value),
      Paired (fun (p : List Key × V) (q : List Key × Addr × Value) => p.1 = q.1 ∧ H q.2.1 = some (.tup (p.1.map kV)) ∧ RelV p.2 q.2.2) kvs xs ∧
      ∃ o es ep, h.get? a = some o ∧ o.ExactDict ∧ o.data = .dict es ep ∧ es.toList = xs.map (entryOfKey (tupleKind (mixKind P w))) ∧ (xs.map (·.1)).Nodup
  | .set S n => h.SetOf (intKind P w) a S n
  | .ins C dx fs => H dx = some (.own a) ∧ fs.length ≤ 1000 ∧ dx ≠ a ∧ h.get? a = some (PySem.W.instObj C dx) ∧
      ∃ mA, h.Ns1 dx mA ∧ (∀ f, RelO (fs.lookup f) (mA f)) ∧ PySem.Within mA (fs.map (·.1))
  | .own _ => ∃ o, h.get? a = some o
  | .xd fs => ∃ mA, h.Ns1 a mA ∧ ∀ f, RelO (fs.lookup f) (mA f)
  | .rng lo hi => ∃ t u v, h.get? a = some { cls := .type "range", data := .fields #[.int lo t, .int hi u, .int 1 v] }
  | .frz o u => h.get? a = some o ∧ ObjOk H h a u
  | .tbl ps => h.get? a = some { cls := .none, data := .fields ps }
  | .met f x => h.get? a = some (PySem.W.methodObj (.ref f) (.ref x))
  | .ext φ => φ h ∧ (∃ o, h.get? a = some o) ∧ ∀ h1 h2 : Heap, φ h1 → (∀ o, h1.get? a = some o → h2.get? a = some o) → φ h2
/-- the abstract heap is held -/
def HOk (H : Hp) (h : Heap) : Prop := ∀ a o, H a = some o → ObjOk P w H h a o
end

section
variable {P : Program} {w : World} {H H' : Hp} {h h' : Heap} {a : Addr} {o : HO}
theorem ObjOk.lt (x : ObjOk P w H h a o) : a < h.objs.size := by
  cases o with
  | lst xs => obtain ⟨_, _, _, _, e⟩ := x; exact Heap.lt_size e
  | tup xs => obtain ⟨_, _, _, p⟩ := x; exact p.lt
  | dK kvs => obtain ⟨_, _, _, _, o, _, _, e, _⟩ := x; exact Heap.lt_size e
  | dT kvs => obtain ⟨_, _, _, _, o, _, _, e, _⟩ := x; exact Heap.lt_size e
  | set S n => obtain ⟨o, _, _, _, e, _⟩ := x; exact Heap.lt_size e
  | ins C dx fs => obtain ⟨_, _, _, e, _⟩ := x; exact Heap.lt_size e
  | own y => obtain ⟨_, e⟩ := x; exact Heap.lt_size e
  | xd fs => obtain ⟨_, ⟨_, _, _, e, _⟩, _⟩ := x; exact Heap.lt_size e
  | rng lo hi => obtain ⟨_, _, _, e⟩ := x; exact Heap.lt_size e
  | frz ob u => obtain ⟨e, _⟩ := x; exact Heap.lt_size e
  | tbl ps => exact Heap.lt_size (show h.get? a = some _ from x)
  | met f y => exact Heap.lt_size (show h.get? a = some _ from x)
  | ext φ => obtain ⟨_, ⟨_, e⟩, _⟩ := x; exact Heap.lt_size e
theorem Paired.mapP {α β : Type} {F G : α → β → Prop} : ∀ {l₁ : List α} {l₂ : List β}, Paired F l₁ l₂ → (∀ a b, F a b → G a b) → Paired G l₁ l₂
  | _, _, .nil, _ => .nil
  | _, _, .cons r t, f => .cons (f _ _ r) (Paired.mapP t f)
theorem Paired.imp' {α β : Type} {F G : α → β → Prop} (f : ∀ a b, F a b → G a b) {l₁ : List α} {l₂ : List β} (r : Paired F l₁ l₂) : Paired G l₁ l₂ := Paired.mapP r f
/-- what an object's description leans on: its own object, its own dict, the tuples -/
theorem ObjOk.stay (x : ObjOk P w H h a o) (k : ∀ b u, (b = a ∨ H b = some (.own a)) → h.get? b = some u → h'.get? b = some u)
    (ho : ∀ b, H b = some (.own a) → H' b = some (.own a)) (ht : ∀ b xs, H b = some (.tup xs) → H' b = some (.tup xs)) : ObjOk P w H' h' a o := by
  induction o with
  | lst xs => obtain ⟨z, its, n, r, e⟩ := x; exact ⟨z, its, n, r, k _ _ (.inl rfl) e⟩
  | tup xs => obtain ⟨z, its, r, ob, e, c⟩ := x; exact ⟨z, its, r, ob, k _ _ (.inl rfl) e, c⟩
  | dK kvs => obtain ⟨z, y, vs, r, ob, es, ep, e, c⟩ := x; exact ⟨z, y, vs, r, ob, es, ep, k _ _ (.inl rfl) e, c⟩
  | dT kvs =>
    obtain ⟨z, y, xs, r, ob, es, ep, e, c⟩ := x
    exact ⟨z, y, xs, Paired.mapP r fun p q z => ⟨z.1, ht _ _ z.2.1, z.2.2⟩, ob, es, ep, k _ _ (.inl rfl) e, c⟩
  | set S n => obtain ⟨ob, es, ep, t, e, c⟩ := x; exact ⟨ob, es, ep, t, k _ _ (.inl rfl) e, c⟩
  | ins C dx fs =>
    obtain ⟨d, z, ne, e, mA, ⟨od, es, ep, e2, c⟩, r⟩ := x
    exact ⟨ho _ d, z, ne, k _ _ (.inl rfl) e, mA, ⟨od, es, ep, k _ _ (.inr d) e2, c⟩, r⟩
  | own y => obtain ⟨ob, e⟩ := x; exact ⟨ob, k _ _ (.inl rfl) e⟩
  | xd fs => obtain ⟨mA, ⟨od, es, ep, e, c⟩, r⟩ := x; exact ⟨mA, ⟨od, es, ep, k _ _ (.inl rfl) e, c⟩, r⟩
  | rng lo hi => obtain ⟨t, u, v, e⟩ := x; exact ⟨t, u, v, k _ _ (.inl rfl) e⟩
  | frz ob u ih => obtain ⟨e, q⟩ := x; exact ⟨k _ _ (.inl rfl) e, ih q⟩
  | tbl ps =>
    have e : h.get? a = some { cls := .none, data := .fields ps } := x
    show h'.get? a = some { cls := .none, data := .fields ps }
    exact k a _ (.inl rfl) e
  | met f y =>
    have e : h.get? a = some (PySem.W.methodObj (.ref f) (.ref y)) := x
    show h'.get? a = some (PySem.W.methodObj (.ref f) (.ref y))
    exact k a _ (.inl rfl) e
  | ext φ => obtain ⟨p, ⟨o, e⟩, st⟩ := x; exact ⟨st _ _ p fun o q => k _ _ (.inl rfl) q, ⟨o, k _ _ (.inl rfl) e⟩, st⟩
theorem HOk.lt (x : HOk P w H h) (e : H a = some o) : a < h.objs.size := (x a o e).lt
theorem HOk.fresh (x : HOk P w H h) (e : h.objs.size ≤ a) : H a = none := by
  cases q : H a with
  | none => rfl
  | some u => exact absurd (Nat.lt_of_lt_of_le (x.lt q) e) (Nat.lt_irrefl _)
/-- every object of the heap is kept -/
theorem HOk.kept (x : HOk P w H h) (k : ∀ b u, h.get? b = some u → h'.get? b = some u) : HOk P w H h' := fun a o e =>
  (x a o e).stay (fun b u _ q => k b u q) (fun _ q => q) fun _ _ q => q
/-- a new object is laid and tracked -/
theorem HOk.laid (x : HOk P w H h) (k : ∀ b u, h.get? b = some u → h'.get? b = some u) (hp : h.objs.size ≤ a) (new : ObjOk P w (upd H a o) h' a o) : HOk P w (upd H a o) h' := fun b u e => by
  have hn := x.fresh hp
  by_cases hb : b = a
  · subst hb; rw [upd_same] at e; cases e; exact new
  · rw [upd_ne hb] at e
    exact (x b u e).stay (fun c v _ q => k c v q) (fun c q => by rw [upd_ne (ne_of_none q hn)]; exact q) fun c xs q => by rw [upd_ne (ne_of_none q hn)]; exact q
end

/-- what may be read as u: it is u, or a known u -/
def Rd (H : Hp) (a : Addr) (u : HO) : Prop := H a = some u ∨ ∃ o, H a = some (.frz o u)
theorem Rd.of {H : Hp} {a : Addr} {u : HO} (h : H a = some u) : Rd H a u := .inl h
theorem Rd.ok {P : Program} {w : World} {H : Hp} {h : Heap} {a : Addr} {u : HO} (r : Rd H a u) (x : HOk P w H h) : ObjOk P w H h a u := by
  rcases r with r | ⟨o, r⟩
  · exact x a u r
  · obtain ⟨_, q⟩ := x a _ r
    exact q
/-- what may be written -/
def Mut : Option HO → Prop
  | some (.lst _) => True
  | some (.dK _) => True
  | some (.dT _) => True
  | some (.set _ _) => True
  | some (.ins _ _ _) => True
  | some (.ext _) => True
  | _ => False
section
variable {P : Program} {w : World} {H : Hp} {h h' : Heap} {x e : Addr} {o' : HO}
/-- the object at e is changed: x itself, or the dict of the instance x -/
theorem HOk.write (ok : HOk P w H h) (mu : Mut (H x)) (he : e = x ∨ H e = some (.own x)) (k : ∀ b u, b ≠ e → h.get? b = some u → h'.get? b = some u) (heo : ∃ u, h'.get? e = some u)
    (new : ObjOk P w (upd H x o') h' x o') : HOk P w (upd H x o') h' := fun b u q => by
  have nown : ∀ c y, H c = some (.own y) → c ≠ x := fun c y r z => by subst z; rw [r] at mu; exact mu
  have ntup : ∀ c xs, H c = some (.tup xs) → c ≠ x := fun c xs r z => by subst z; rw [r] at mu; exact mu
  by_cases hb : b = x
  · subst hb; rw [upd_same] at q; cases q; exact new
  · rw [upd_ne hb] at q
    by_cases hbe : b = e
    · have q' : H b = some (.own x) := by
        rcases he with z | z
        · exact absurd (hbe.trans z) hb
        · rw [hbe]; exact z
      rw [q] at q'; cases q'
      obtain ⟨v, hv⟩ := heo
      exact ⟨v, by rw [hbe]; exact hv⟩
    · refine (ok b u q).stay (fun c v hc r => k c v ?_ r) (fun c r => by rw [upd_ne (nown c b r)]; exact r) fun c xs r => by rw [upd_ne (ntup c xs r)]; exact r
      rcases hc with rfl | hc
      · exact hbe
      · rintro rfl
        rcases he with z | z
        · exact nown c b hc z
        · rw [hc] at z; cases z; exact hb rfl
end

/-! ### kept unless tracked; of the frames at fs (the callers') the slots may change (an exception that passes writes there); of the records at ex (iterators) nothing is said -/
structure Un (fs ex : List Addr) (H H' : Hp) (h h' : Heap) : Prop where
  keep : ∀ b o, h.get? b = some o → H b = none → b ∉ fs → b ∉ ex → h'.get? b = some o
  slot : ∀ b o, h.get? b = some o → H b = none → b ∈ fs → b ∉ ex → ∃ sl, h'.get? b = some { o with slots := sl }
  free : ∀ b o, h.get? b = some o → H b = none → b ∉ ex → H' b = none
  there : ∀ b o, h.get? b = some o → b ∉ ex → ∃ o', h'.get? b = some o'
  tups : ∀ b xs, H b = some (.tup xs) → H' b = some (.tup xs)
  frzs : ∀ b o u, H b = some (.frz o u) → H' b = some (.frz o u)
  tbls : ∀ b ps, H b = some (.tbl ps) → ∃ more, H' b = some (.tbl (ps ++ more))
section
variable {fs fs' ex ex' : List Addr} {H H1 H2 : Hp} {h h1 h2 h' : Heap} {a x e : Addr} {o : HO}
theorem Un.any (u : Un fs ex H H1 h h1) {b : Addr} {ob : Obj} (q : h.get? b = some ob) (n : H b = none) (hx : b ∉ ex) : ∃ sl, h1.get? b = some { ob with slots := sl } := by
  by_cases hb : b ∈ fs
  · exact u.slot b ob q n hb hx
  · exact ⟨ob.slots, u.keep b ob q n hb hx⟩
theorem Un.trans (a : Un fs ex H H1 h h1) (b : Un fs ex H1 H2 h1 h2) : Un fs ex H H2 h h2 where
  keep := fun c ob q n hc hx => b.keep c ob (a.keep c ob q n hc hx) (a.free c ob q n hx) hc hx
  slot := fun c ob q n hc hx => by
    obtain ⟨sl, e1⟩ := a.slot c ob q n hc hx
    obtain ⟨sl', e2⟩ := b.slot c _ e1 (a.free c ob q n hx) hc hx
    exact ⟨sl', e2⟩
  free := fun c ob q n hx => by
    obtain ⟨o', e1⟩ := a.there c ob q hx
    exact b.free c o' e1 (a.free c ob q n hx) hx
  there := fun c ob q hx => by
    obtain ⟨o', e1⟩ := a.there c ob q hx
    exact b.there c o' e1 hx
  tups := fun c xs q => b.tups c xs (a.tups c xs q)
  frzs := fun c ob xs q => b.frzs c ob xs (a.frzs c ob xs q)
  tbls := fun c ps q => by
    obtain ⟨m1, e1⟩ := a.tbls c ps q
    obtain ⟨m2, e2⟩ := b.tbls c _ e1
    exact ⟨m1 ++ m2, by rw [e2, Array.append_assoc]⟩
theorem Un.kept (k : ∀ b u, h.get? b = some u → h'.get? b = some u) : Un fs ex H H h h' :=
  ⟨fun b ob q _ _ _ => k b ob q, fun b ob q _ _ _ => ⟨ob.slots, k b ob q⟩, fun _ _ _ n _ => n, fun b ob q _ => ⟨ob, k b ob q⟩, fun _ _ q => q, fun _ _ _ q => q, fun _ ps q => ⟨#[], by rw [q]; simp⟩⟩
theorem Un.refl : Un fs ex H H h h := Un.kept fun _ _ q => q
theorem Un.laid (k : ∀ b u, h.get? b = some u → h'.get? b = some u) (hp : h.objs.size ≤ a) (hn : H a = none) : Un fs ex H (upd H a o) h h' where
  keep := fun b u q _ _ _ => k b u q
  slot := fun b u q _ _ _ => ⟨u.slots, k b u q⟩
  free := fun b u q n _ => by rw [upd_ne (Nat.ne_of_lt (Nat.lt_of_lt_of_le (Heap.lt_size q) hp))]; exact n
  there := fun b u q _ => ⟨u, k b u q⟩
  tups := fun b xs q => by rw [upd_ne (ne_of_none q hn)]; exact q
  frzs := fun b u xs q => by rw [upd_ne (ne_of_none q hn)]; exact q
  tbls := fun b ps q => ⟨#[], by rw [upd_ne (ne_of_none q hn), q]; simp⟩
theorem Un.write (mu : Mut (H x)) (he : e = x ∨ H e = some (.own x)) (k : ∀ b u, b ≠ e → h.get? b = some u → h'.get? b = some u) (heo : ∃ u, h'.get? e = some u) : Un fs ex H (upd H x o) h h' := by
  have hx : ∀ b, H b = none → b ≠ x := fun b n z => by subst z; rw [n] at mu; exact mu
  have hb : ∀ b, H b = none → b ≠ e := fun b n z => by
    subst z
    rcases he with r | r
    · exact hx b n r
    · rw [n] at r; cases r
  have hm : ∀ b u, H b = some u → ¬ Mut (some u) → b ≠ x := fun b u q nm z => by subst z; rw [q] at mu; exact nm mu
  refine ⟨fun b u q n _ _ => k b u (hb b n) q, fun b u q n _ _ => ⟨u.slots, k b u (hb b n) q⟩, fun b u q n _ => by rw [upd_ne (hx b n)]; exact n, fun b u q _ => ?_,
    fun b xs q => by rw [upd_ne (hm b _ q fun z => z)]; exact q, fun b u xs q => by rw [upd_ne (hm b _ q fun z => z)]; exact q, fun b ps q => ⟨#[], by rw [upd_ne (hm b _ q fun z => z), q]; simp⟩⟩
  by_cases hbe : b = e
  · subst hbe; exact heo
  · exact ⟨u, k b u hbe q⟩
theorem Un.mono (u : Un fs ex H H1 h h1) (hs : ∀ b ∈ fs, b ∈ fs') (hx : ∀ b ∈ ex, b ∈ ex') : Un fs' ex' H H1 h h1 :=
  ⟨fun b ob q n hb he => u.keep b ob q n (fun z => hb (hs b z)) fun z => he (hx b z), fun _ _ q n _ he => u.any q n fun z => he (hx _ z), fun b ob q n he => u.free b ob q n fun z => he (hx b z), fun b ob q he => u.there b ob q fun z => he (hx b z), u.tups, u.frzs, u.tbls⟩
end

/-! ### the heap without what is tracked -/
def trk (h : Heap) (H : Hp) : List Addr := (List.range h.objs.size).filter fun a => (H a).isSome
def hidT (h : Heap) (H : Hp) : Heap := PySem.W.hideAll h (trk h H)
theorem hidT_size (h : Heap) (H : Hp) : (hidT h H).objs.size = h.objs.size := PySem.W.hideAll_size _ _
theorem hidT_get {h : Heap} {H : Hp} {b : Addr} {o : Obj} (e : h.get? b = some o) (n : H b = none) : (hidT h H).get? b = some o :=
  PySem.W.hideAll_get _ e fun hm => by
    have q : (H b).isSome = true := (List.mem_filter.mp hm).2
    rw [n] at q; simp at q
theorem of_hidT {h : Heap} {H : Hp} {b : Addr} {o : Obj} (e : (hidT h H).get? b = some o) : h.get? b = some o ∧ H b = none := by
  have e' : h.get? b = some o := PySem.W.of_hideAll (trk h H) e
  refine ⟨e', ?_⟩
  cases q : H b with
  | none => rfl
  | some x =>
    have hm : b ∈ trk h H := List.mem_filter.mpr ⟨List.mem_range.mpr (Heap.lt_size e'), by simp [q]⟩
    have z : (hidT h H).get? b = none := PySem.W.hideAll_none (trk h H) hm
    rw [z] at e; cases e

/-! ### OpenK's ledger, filled with every new object but one -/
def allNews (g h : Heap) (L : Addr) : List (Addr × Obj) := (List.range h.objs.size).filterMap fun a => if a = L ∨ (g.get? a).isSome = true then none else (h.get? a).map fun o => (a, o)
theorem mem_allNews {g h : Heap} {L a : Addr} {o : Obj} (h1 : a ≠ L) (h2 : g.get? a = none) (h3 : h.get? a = some o) : (a, o) ∈ allNews g h L :=
  List.mem_filterMap.mpr ⟨a, List.mem_range.mpr (Heap.lt_size h3), by simp [h1, h2, h3]⟩
theorem of_mem_allNews {g h : Heap} {L : Addr} {p : Addr × Obj} (hp : p ∈ allNews g h L) : p.1 ≠ L ∧ g.get? p.1 = none ∧ h.get? p.1 = some p.2 := by
  obtain ⟨b, _, e⟩ := List.mem_filterMap.mp hp
  split at e
  · cases e
  · rename_i hn
    cases q : h.get? b with
    | none => rw [q] at e; simp at e
    | some u =>
      rw [q] at e
      simp only [Option.map_some, Option.some.injEq] at e
      subst e
      refine ⟨fun z => hn (.inl z), ?_, q⟩
      show g.get? b = none
      cases r : g.get? b with
      | none => rfl
      | some v => exact (hn (.inr (by simp [r]))).elim
def rest (g h : Heap) (L d : Addr) : List (Addr × Obj) := (allNews g h L).filter fun p => decide (p.1 ≠ d)
theorem rest_ne {g h : Heap} {L d : Addr} : ∀ p ∈ rest g h L d, p.1 ≠ d := fun p hp => of_decide_eq_true (List.mem_filter.mp hp).2
theorem mem_rest {g h : Heap} {L d a : Addr} {o : Obj} (h1 : a ≠ L) (h2 : g.get? a = none) (h3 : h.get? a = some o) (h4 : a ≠ d) : (a, o) ∈ rest g h L d :=
  List.mem_filter.mpr ⟨mem_allNews h1 h2 h3, decide_eq_true h4⟩
theorem news_all {g h : Heap} {L : Addr} : News g L h (allNews g h L) := fun p hp => let ⟨a, b, c⟩ := of_mem_allNews hp; ⟨c, a, b⟩
theorem news_at {g h : Heap} {L d : Addr} {o : Obj} (h1 : d ≠ L) (h2 : g.get? d = none) (h3 : h.get? d = some o) : News g L h ((d, o) :: rest g h L d) := fun p hp => by
  rcases List.mem_cons.mp hp with rfl | hp
  · exact ⟨h3, h1, h2⟩
  · exact news_all p (List.mem_filter.mp hp).1
/-- behind a rule that changed d alone: all else but the frame is kept -/
theorem kept_of_news {g h h' : Heap} {L d : Addr} {m : Str → Option Value} (k : ∀ b o, g.get? b = some o → h.get? b = some o) (F : Fr g L h' m) (N : News g L h' (rest g h L d)) :
    ∀ b o, b ≠ L → b ≠ d → h.get? b = some o → h'.get? b = some o := fun b o h1 h2 e => by
  cases q : g.get? b with
  | some u =>
    have := k b u q
    rw [e] at this; cases this
    exact F.keep b _ q
  | none => exact (N (b, o) (mem_rest h1 q e h2)).1
end L2

namespace L2
open PySem PySem.Spec PyProof.Rows

/-- the module's facts, over the base: the heap at the law's entry without what is tracked there -/
structure Mod (K : PySem.W.Frag) (mg : Str → Option Value) (base : Heap) : Prop where
  kin : K.In base
  glob : base.Ns mainGlobals mg
  blt : ∃ mb, base.Ns builtinsNs mb ∧ ∀ x : Str, x ≠ "__name__" → mb x = bootBuiltins x
  nolimit : base.NoLimit

/-- the context: a def's body (or a comprehension's block) running. base: fixed through the whole law; s₀, H₀: the entry; outer: the frames whose slots others may change (a def's callers); stack: all frames that run;
   ex: iterators that were made ahead of the entry and are walked here (a comprehension's); fn: the names whose cells were made at the entry (a def: all; a comprehension's block: its own); calm: not within an except suite; pn: pins that every state bears; xe: what is wanted of an exception that leaves the code -/
structure Cx where
  prog : Program
  w : World
  K : PySem.W.Frag
  mg : Str → Option Value
  base : Heap
  A : Around
  N : List Str
  s₀ : Shared
  H₀ : Hp
  env : Env
  outer : List Env
  stack : List Env
  ex : List Addr
  fn : Str → Bool
  calm : Bool
  pn : List (Addr × Obj)
  xe : Value → Shared → Prop
/-- the callers' frames -/
def frs (l : List Env) : List Addr := l.filterMap (·.frame)
abbrev Cx.fs (X : Cx) : List Addr := frs X.outer

def Vis (sc : Scope) (x : Str) : Prop := sc.names.lookup x = some .local ∨ sc.names.lookup x = some .cell ∨ sc.names.lookup x = some .free
def Loc (sc : Scope) (x : Str) : Prop := sc.names.lookup x = some .local ∨ sc.names.lookup x = some .cell
def Look (env : Env) (h : Heap) (m : Str → Option Value) (x : Str) (u : Value) : Prop :=
  (env.kindOf x = some .local ∧ m x = some u) ∨ ((env.kindOf x = some .cell ∨ env.kindOf x = some .free) ∧ ∃ c, env.cells.lookup x = some c ∧ h.IsCell c (some u))

structure Cx.Ok (X : Cx) : Prop where
  mod : Mod X.K X.mg X.base
  kind : X.env.scope.kind = .function
  glob : X.env.globals = mainGlobals
  blt : X.env.builtins = builtinsNs
  above : X.s₀.heap.objs.size ≤ X.env.locals
  inj : ∀ x y c, X.env.cells.lookup x = some c → X.env.cells.lookup y = some c → x = y
  has : ∀ x, (X.env.kindOf x = some .cell ∨ X.env.kindOf x = some .free) → ∃ c, X.env.cells.lookup x = some c
  cab : ∀ x c, X.fn x = true → X.env.cells.lookup x = some c → X.s₀.heap.objs.size ≤ c
  hd : X.calm = true → X.A.handled = none
  frames : X.A.frames = some X.stack
  stk : X.stack = X.outer ∨ (X.stack = X.env :: X.outer ∧ X.env.frame = some X.env.locals)
  exf : ∀ b ∈ X.ex, b ≠ X.env.locals ∧ ∀ x c, X.env.cells.lookup x = some c → c ≠ b
  bs : ∀ b o, X.base.get? b = some o → X.s₀.heap.get? b = some o ∧ X.H₀ b = none
  bsz : X.base.objs.size ≤ X.s₀.heap.objs.size
  noex : ∀ b o, X.base.get? b = some o → b ∉ X.ex
  exfs : ∀ b ∈ X.ex, b ∉ X.fs
  funs : X.s₀.heap.FunFrames X.base X.outer
  frf : ∀ b ∈ X.fs, X.H₀ b = none

structure Inv (X : Cx) (pins : List (Addr × Obj)) (σ : List (Option V)) (H : Hp) (s : Shared) : Prop where
  ok : X.Ok
  os : s.os = X.s₀.os
  bare : AllBare s.gens
  base : Un X.fs X.ex X.H₀ H X.s₀.heap s.heap
  loc : ∃ m, s.heap.Ns X.env.locals m ∧ ∀ (i : Nat) (x : Str) (v : V), X.N[i]? = some x → σ[i]? = some (some v) → Vis X.env.scope x → ∃ u, RelV v u ∧ Look X.env s.heap m x u
  cell : ∀ x c, X.env.cells.lookup x = some c → ∃ v, s.heap.IsCell c v
  free : H X.env.locals = none
  freeC : ∀ x c, X.env.cells.lookup x = some c → H c = none
  pin : ∀ p ∈ X.pn ++ pins, s.heap.get? p.1 = some p.2 ∧ H p.1 = none ∧ p.1 ≠ X.env.locals ∧ p.1 ∉ X.fs ∧ ∀ v, p.2.data ≠ .cell v
  hok : HOk X.prog X.w H s.heap
  len : σ.length = X.N.length

section
variable {X : Cx} {pins : List (Addr × Obj)} {σ : List (Option V)} {H H' : Hp} {s : Shared} {h' : Heap}

theorem Cx.Ok.nofr (ok : X.Ok) {b : Addr} {o : Obj} (e : X.base.get? b = some o) : b ∉ X.fs := fun hb => by
  have := (ok.funs.mem hb).1
  rw [e] at this; cases this
theorem Inv.bs (I : Inv X pins σ H s) : ∀ b o, X.base.get? b = some o → s.heap.get? b = some o ∧ H b = none := fun b o e =>
  ⟨I.base.keep b o (I.ok.bs b o e).1 (I.ok.bs b o e).2 (I.ok.nofr e) (I.ok.noex b o e), I.base.free b o (I.ok.bs b o e).1 (I.ok.bs b o e).2 (I.ok.noex b o e)⟩
theorem Inv.bk (I : Inv X pins σ H s) : ∀ b o, X.base.get? b = some o → s.heap.get? b = some o := fun b o e => (I.bs b o e).1
theorem Inv.mod (I : Inv X pins σ H s) : Mod X.K X.mg X.base := I.ok.mod
theorem Inv.kIn (I : Inv X pins σ H s) : X.K.In s.heap := I.ok.mod.kin.keeps I.bk
theorem Inv.nolimit (I : Inv X pins σ H s) : s.heap.NoLimit := I.ok.mod.nolimit.keeps I.bk
/-- the frame over the base: for OpenK's rules (K.In X.base is I.mod.kin) -/
theorem Inv.fr (I : Inv X pins σ H s) : ∃ m, Fr X.base X.env.locals s.heap m :=
  let ⟨m, hn, _⟩ := I.loc
  ⟨m, hn, I.bk, Nat.le_trans I.ok.bsz I.ok.above⟩
theorem Inv.lt (I : Inv X pins σ H s) : X.env.locals < s.heap.objs.size := let ⟨_, hn, _⟩ := I.loc; hn.lt
theorem Inv.sz (I : Inv X pins σ H s) : X.s₀.heap.objs.size ≤ s.heap.objs.size := Nat.le_trans I.ok.above (Nat.le_of_lt I.lt)
theorem Inv.nofs (I : Inv X pins σ H s) {a : Addr} (h : s.heap.objs.size ≤ a) : a ∉ X.fs := fun hb => by
  obtain ⟨_, o, ho, _⟩ := I.ok.funs.mem hb
  exact absurd (Nat.lt_of_lt_of_le (Heap.lt_size ho) (Nat.le_trans I.sz h)) (Nat.lt_irrefl _)
theorem Inv.cne (I : Inv X pins σ H s) : ∀ x c, X.env.cells.lookup x = some c → c ≠ X.env.locals := fun x c e z => by
  obtain ⟨v, o, ho, hd⟩ := I.cell x c e
  obtain ⟨m, ⟨o', es, ep, ho', hd', _⟩, _⟩ := I.loc
  rw [z, ho'] at ho; cases ho; rw [hd'] at hd; cases hd
theorem Inv.funs (I : Inv X pins σ H s) : s.heap.FunFrames X.base X.outer := by
  have all : ∀ (l : List Env), (∀ b ∈ frs l, b ∈ X.fs) → X.s₀.heap.FunFrames X.base l → s.heap.FunFrames X.base l := by
    intro l
    induction l with
    | nil => intro _ _; trivial
    | cons env r ih =>
      intro hs hl
      obtain ⟨hk, ⟨L, o, hf, hn, ho, hd⟩, hr⟩ := hl
      have hL : L ∈ X.fs := hs L (by unfold frs; rw [List.filterMap_cons, hf]; exact List.mem_cons_self)
      obtain ⟨sl, e⟩ := I.base.slot L o ho (I.ok.frf L hL) hL fun z => I.ok.exfs L z hL
      exact ⟨hk, ⟨L, _, hf, hn, e, hd⟩, ih (fun b hb => hs b (by unfold frs; rw [List.filterMap_cons, hf]; exact List.mem_cons_of_mem _ hb)) hr⟩
  exact all X.outer (fun _ hb => hb) I.ok.funs

/-- the frames that run, for a call -/
theorem Inv.stack (I : Inv X pins σ H s) : s.heap.FunFrames X.base X.stack := by
  rcases I.ok.stk with e | ⟨e, hf⟩
  · rw [e]; exact I.funs
  · rw [e]
    obtain ⟨m, hn, _⟩ := I.loc
    refine .cons (by rw [I.ok.kind]; decide) hf hn ?_ I.funs
    exact Heap.get?_none_of_le (Nat.le_trans I.ok.bsz I.ok.above)
theorem Inv.stkSub (I : Inv X pins σ H s) : ∀ b ∈ frs X.stack, b ∈ X.env.locals :: X.fs := fun b hb => by
  rcases I.ok.stk with e | ⟨e, hf⟩
  · rw [e] at hb; exact List.mem_cons_of_mem _ hb
  · rw [e] at hb
    unfold frs at hb
    rw [List.filterMap_cons, hf] at hb
    exact hb
theorem Inv.stkFree (I : Inv X pins σ H s) : ∀ b ∈ frs X.stack, H b = none := fun b hb => by
  rcases List.mem_cons.mp (I.stkSub b hb) with e | hb
  · rw [e]; exact I.free
  · obtain ⟨_, o, ho, _⟩ := I.ok.funs.mem hb
    exact I.base.free b o ho (I.ok.frf b hb) fun z => I.ok.exfs b z hb

/-- THE STEP: the untracked objects but the frame and the records at ch are kept (the callers' frames up to slots), the frame's map is kept, the new abstract heap is held -/
theorem Inv.step {g' : Array GenState} {t' : Nat} {d' : Drawn} {ch : List Addr} (I : Inv X pins σ H s)
    (hch : ∀ b ∈ ch, (b ∈ X.ex ∨ X.s₀.heap.objs.size ≤ b) ∧ b ≠ X.env.locals ∧ (∀ x c, X.env.cells.lookup x = some c → c ≠ b) ∧ ∀ p ∈ X.pn ++ pins, p.1 ≠ b)
    (keep : ∀ b o, b ≠ X.env.locals → b ∉ X.fs → b ∉ ch → s.heap.get? b = some o → H b = none → h'.get? b = some o)
    (slot : ∀ b o, b ≠ X.env.locals → b ∈ X.fs → b ∉ ch → s.heap.get? b = some o → H b = none → ∃ sl, h'.get? b = some { o with slots := sl }) (free : ∀ b o, b ∉ ch → s.heap.get? b = some o → H b = none → H' b = none)
    (there : ∀ b o, b ∉ ch → s.heap.get? b = some o → ∃ o', h'.get? b = some o')
    (tups : ∀ b xs, H b = some (.tup xs) → H' b = some (.tup xs)) (frzs : ∀ b o u, H b = some (.frz o u) → H' b = some (.frz o u)) (tbls : ∀ b ps, H b = some (.tbl ps) → ∃ more, H' b = some (.tbl (ps ++ more)))
    (ns : ∀ m, s.heap.Ns X.env.locals m → h'.Ns X.env.locals m) (hok : HOk X.prog X.w H' h') (hg : AllBare g') :
    Inv X pins σ H' { s with heap := h', gens := g', drawn := d', toks := t' } := by
  have neL : ∀ b o, X.s₀.heap.get? b = some o → b ≠ X.env.locals := fun b o e => Nat.ne_of_lt (Nat.lt_of_lt_of_le (Heap.lt_size e) I.ok.above)
  have neC : ∀ b o, X.s₀.heap.get? b = some o → b ∉ X.ex → b ∉ ch := fun b o e hx hb => by
    rcases (hch b hb).1 with z | z
    · exact hx z
    · exact absurd (Nat.lt_of_lt_of_le (Heap.lt_size e) z) (Nat.lt_irrefl _)
  have cellK : ∀ x c, X.env.cells.lookup x = some c → ∀ v, s.heap.IsCell c v → h'.IsCell c v := fun x c e v ⟨o, ho, hd⟩ => by
    have nch : c ∉ ch := fun z => (hch c z).2.2.1 x c e rfl
    by_cases hc : c ∈ X.fs
    · obtain ⟨sl, q⟩ := slot c o (I.cne x c e) hc nch ho (I.freeC x c e)
      exact ⟨_, q, hd⟩
    · exact ⟨o, keep c o (I.cne x c e) hc nch ho (I.freeC x c e), hd⟩
  refine ⟨I.ok, I.os, hg, ⟨fun b o e n hb hx => ?_, fun b o e n hb hx => ?_, fun b o e n hx => ?_, fun b o e hx => ?_, fun b xs e => tups b xs (I.base.tups b xs e), fun b o xs e => frzs b o xs (I.base.frzs b o xs e), fun b ps e => ?_⟩, ?_, fun x c e => ?_, ?_, fun x c e => ?_, fun p hp => ?_, hok, I.len⟩
  · exact keep b o (neL b o e) hb (neC b o e hx) (I.base.keep b o e n hb hx) (I.base.free b o e n hx)
  · obtain ⟨sl, e1⟩ := I.base.slot b o e n hb hx
    obtain ⟨sl', e2⟩ := slot b _ (neL b o e) hb (neC b o e hx) e1 (I.base.free b o e n hx)
    exact ⟨sl', e2⟩
  · obtain ⟨o', e1⟩ := I.base.there b o e hx
    exact free b o' (neC b o e hx) e1 (I.base.free b o e n hx)
  · obtain ⟨o', e1⟩ := I.base.there b o e hx
    exact there b o' (neC b o e hx) e1
  · obtain ⟨m1, e1⟩ := I.base.tbls b ps e
    obtain ⟨m2, e2⟩ := tbls b _ e1
    exact ⟨m1 ++ m2, by rw [e2, Array.append_assoc]⟩
  · obtain ⟨m, hn, hl⟩ := I.loc
    refine ⟨m, ns m hn, fun i x v e1 e2 e3 => ?_⟩
    obtain ⟨u, r, l⟩ := hl i x v e1 e2 e3
    refine ⟨u, r, ?_⟩
    rcases l with l | ⟨k, c, e, z⟩
    · exact .inl l
    · exact .inr ⟨k, c, e, cellK x c e _ z⟩
  · obtain ⟨v, z⟩ := I.cell x c e
    exact ⟨v, cellK x c e v z⟩
  · obtain ⟨m, ⟨o, _, _, ho, _⟩, _⟩ := I.loc
    exact free _ o (fun z => (hch _ z).2.1 rfl) ho I.free
  · obtain ⟨v, o, ho, hd⟩ := I.cell x c e
    exact free c o (fun z => (hch c z).2.2.1 x c e rfl) ho (I.freeC x c e)
  · obtain ⟨e, n, ne, nf, d⟩ := I.pin p hp
    have nch : p.1 ∉ ch := fun z => (hch p.1 z).2.2.2 p hp rfl
    exact ⟨keep p.1 p.2 ne nf nch e n, free p.1 p.2 nch e n, ne, nf, d⟩
/-- .. where the frame's own object is kept too -/
theorem Inv.un {t' : Nat} (I : Inv X pins σ H s) (u : Un X.fs [] H H' s.heap h') (hok : HOk X.prog X.w H' h') : Inv X pins σ H' { s with heap := h', toks := t' } := by
  obtain ⟨m, ⟨o, es, ep, ho, r⟩, _⟩ := id I.loc
  obtain ⟨sl, hL⟩ := u.any ho I.free (by simp)
  exact I.step (g' := s.gens) (d' := s.drawn) (ch := []) (fun _ z => nomatch z) (fun b o _ hb _ e n => u.keep b o e n hb (by simp)) (fun b o _ hb _ e n => u.slot b o e n hb (by simp)) (fun b o _ e n => u.free b o e n (by simp)) (fun b o _ e => u.there b o e (by simp)) u.tups u.frzs u.tbls (fun m' hm => by
    obtain ⟨o', es', ep', ho', r'⟩ := hm
    rw [ho] at ho'; cases ho'
    exact ⟨_, es', ep', hL, r'⟩) hok I.bare
/-- behind a call (or a comprehension's block): the slots of this frame may have changed too, the records at ch may have turned -/
theorem Inv.call {g' : Array GenState} {t' : Nat} {d' : Drawn} {ch : List Addr} (I : Inv X pins σ H s) (u : Un (frs X.stack) ch H H' s.heap h') (hok : HOk X.prog X.w H' h') (hg : AllBare g')
    (hch : ∀ b ∈ ch, (b ∈ X.ex ∨ X.s₀.heap.objs.size ≤ b) ∧ b ≠ X.env.locals ∧ (∀ x c, X.env.cells.lookup x = some c → c ≠ b) ∧ ∀ p ∈ X.pn ++ pins, p.1 ≠ b) :
    Inv X pins σ H' { s with heap := h', gens := g', drawn := d', toks := t' } := by
  obtain ⟨m, ⟨o, es, ep, ho, r⟩, _⟩ := id I.loc
  obtain ⟨sl, hL⟩ := u.any ho I.free fun z => (hch _ z).2.1 rfl
  exact I.step (ch := ch) hch (fun b o hL hb hc e n => u.keep b o e n (fun z => (List.mem_cons.mp (I.stkSub b z)).elim hL hb) hc) (fun b o _ _ hc e n => u.any e n hc) (fun b o hc e n => u.free b o e n hc) (fun b o hc e => u.there b o e hc) u.tups u.frzs u.tbls (fun m' hm => by
    obtain ⟨o', es', ep', ho', r'⟩ := hm
    rw [ho] at ho'; cases ho'
    exact ⟨_, es', ep', hL, r'⟩) hok hg
/-- an untracked record of ours (an iterator) has turned -/
theorem Inv.turned {t' : Nat} {it : Addr} (I : Inv X pins σ H s) (k : ∀ b o, b ≠ it → s.heap.get? b = some o → h'.get? b = some o) (hn : H it = none) (hL : it ≠ X.env.locals)
    (h1 : it ∈ X.ex ∨ X.s₀.heap.objs.size ≤ it) (h2 : ∀ x c, X.env.cells.lookup x = some c → c ≠ it) (h3 : ∀ p ∈ X.pn ++ pins, p.1 ≠ it) : Inv X pins σ H { s with heap := h', toks := t' } := by
  have nit : ∀ b u, H b = some u → b ≠ it := fun b u e z => by rw [z, hn] at e; cases e
  refine I.step (g' := s.gens) (d' := s.drawn) (ch := [it]) (fun b hb => ?_) (fun b o _ _ hc e _ => k b o (fun z => hc (by simp [z])) e) (fun b o _ _ hc e _ => ⟨o.slots, k b o (fun z => hc (by simp [z])) e⟩) (fun _ _ _ _ n => n)
    (fun b o hc e => ⟨o, k b o (fun z => hc (by simp [z])) e⟩) (fun _ _ e => e) (fun _ _ _ e => e) (fun b ps e => ⟨#[], by rw [e]; simp⟩) (fun m hm => ?_) (fun b u e => ?_) I.bare
  · have e : b = it := by simpa using hb
    subst e
    exact ⟨h1, hL, h2, h3⟩
  · obtain ⟨o, es, ep, ho, r⟩ := hm
    exact ⟨o, es, ep, k _ o (Ne.symm hL) ho, r⟩
  · refine (I.hok b u e).stay (fun c v hc q => k c v ?_ q) (fun _ q => q) fun _ _ q => q
    rcases hc with z | z
    · rw [z]; exact nit b u e
    · exact nit c _ z
theorem Inv.tok (I : Inv X pins σ H s) (t : Nat) : Inv X pins σ H { s with toks := t } := I.un (h' := s.heap) (t' := t) Un.refl I.hok
/-- all objects kept -/
theorem Inv.kept {t' : Nat} (I : Inv X pins σ H s) (k : ∀ b u, s.heap.get? b = some u → h'.get? b = some u) : Inv X pins σ H { s with heap := h', toks := t' } := I.un (Un.kept k) (I.hok.kept k)
/-- a new object laid and tracked -/
theorem Inv.laid {a : Addr} {o : HO} {t' : Nat} (I : Inv X pins σ H s) (k : ∀ b u, s.heap.get? b = some u → h'.get? b = some u) (hp : s.heap.objs.size ≤ a) (new : ObjOk X.prog X.w (upd H a o) h' a o) :
    Inv X pins σ (upd H a o) { s with heap := h', toks := t' } := I.un (Un.laid k hp (I.hok.fresh hp)) (I.hok.laid k hp new)
/-- an object written -/
theorem Inv.write {x e : Addr} {o : HO} {t' : Nat} (I : Inv X pins σ H s) (mu : Mut (H x)) (he : e = x ∨ H e = some (.own x)) (k : ∀ b u, b ≠ e → s.heap.get? b = some u → h'.get? b = some u) (heo : ∃ u, h'.get? e = some u)
    (new : ObjOk X.prog X.w (upd H x o) h' x o) : Inv X pins σ (upd H x o) { s with heap := h', toks := t' } := I.un (Un.write mu he k heo) (I.hok.write mu he k heo new)
/-- forgetting slots, pins -/
theorem Inv.weak {σ' : List (Option V)} (I : Inv X pins σ H s) (hl : σ'.length = σ.length) (w : ∀ (i : Nat) v, σ'[i]? = some (some v) → σ[i]? = some (some v)) : Inv X pins σ' H s :=
  ⟨I.ok, I.os, I.bare, I.base, let ⟨m, hn, hl'⟩ := I.loc; ⟨m, hn, fun i x v e1 e2 e3 => hl' i x v e1 (w i v e2) e3⟩, I.cell, I.free, I.freeC, I.pin, I.hok, hl.trans I.len⟩
theorem Inv.pins_of {pins' : List (Addr × Obj)} (I : Inv X pins σ H s) (h : ∀ p ∈ pins', s.heap.get? p.1 = some p.2 ∧ H p.1 = none ∧ p.1 ≠ X.env.locals ∧ p.1 ∉ X.fs ∧ ∀ v, p.2.data ≠ .cell v) : Inv X pins' σ H s :=
  ⟨I.ok, I.os, I.bare, I.base, I.loc, I.cell, I.free, I.freeC, fun p hp => (List.mem_append.mp hp).elim (fun z => I.pin p (List.mem_append_left _ z)) (h p), I.hok, I.len⟩

theorem nodup_ix {N : List Str} (hN : N.Nodup) {i j : Nat} {x : Str} (a : N[i]? = some x) (b : N[j]? = some x) : i = j := by
  obtain ⟨h1, e1⟩ := List.getElem?_eq_some_iff.mp a
  obtain ⟨h2, e2⟩ := List.getElem?_eq_some_iff.mp b
  exact (List.getElem_inj hN).mp (e1.trans e2.symm)

/-- a name is stored; what changed -/
theorem store_ok2 {M : Model} {A : Around} {E : Value → Shared → Prop} {i : Nat} {x : Str} {v : V} {u : Value} {Q : Unit → Shared → Prop} (I : Inv X pins σ H s) (hN : X.N.Nodup) (hi : X.N[i]? = some x) (hx : Loc X.env.scope x) (r : RelV v u)
    (h : ∀ s', Inv X pins (σ.set i (some v)) H s' → (∃ a, Heap.SameBut a s.heap s'.heap ∧ (a = X.env.locals ∨ X.env.cells.lookup x = some a)) → Q () s') (hf : X.fn x = true ∨ X.env.scope.names.lookup x = some .local := by first | exact .inl rfl | exact .inr rfl | assumption) : wpAny M A (storeName X.env x u) Q E s := by
  obtain ⟨m, hn, hl⟩ := id I.loc
  have hcls : (X.env.scope.kind == .class || (X.env.scope.kind == .module && X.env.locals != X.env.globals)) = false := by rw [I.ok.kind]; rfl
  have hiσ : i < σ.length := by rw [I.len]; exact (List.getElem?_eq_some_iff.mp hi).1
  have cne := I.cne
  have tracked : ∀ {a : Addr} {h' : Heap}, (∃ o, s.heap.get? a = some o ∧ H a = none) → Heap.SameBut a s.heap h' → HOk X.prog X.w H h' := fun {a h'} ha hs b ob e => by
    obtain ⟨_, _, hfree⟩ := ha
    refine (I.hok b ob e).stay (fun c w' hc q => (hs.2 c ?_).trans q) (fun _ q => q) fun _ _ q => q
    rintro rfl
    rcases hc with rfl | hc
    · rw [hfree] at e; cases e
    · rw [hfree] at hc; cases hc
  rcases hx with hk | hk
  · refine wpAny_storeName_local hk hn (fun h' hn' hs => ?_) hcls
    obtain ⟨oL, _, _, hoL, _⟩ := id hn
    refine h _ ⟨I.ok, I.os, I.bare, ⟨fun b o e n hb hx => ?_, fun b o e n hb hx => ?_, I.base.free, fun b o e hx => ?_, I.base.tups, I.base.frzs, I.base.tbls⟩, ⟨_, hn', fun j y v' e1 e2 e3 => ?_⟩, fun y c e => ?_, I.free, I.freeC, fun p hp => ?_, tracked ⟨oL, hoL, I.free⟩ hs, by simpa using I.len⟩ ⟨_, hs, .inl rfl⟩
    · exact (hs.2 b (Nat.ne_of_lt (Nat.lt_of_lt_of_le (Heap.lt_size e) I.ok.above))).trans (I.base.keep b o e n hb hx)
    · obtain ⟨sl, e1⟩ := I.base.slot b o e n hb hx
      exact ⟨sl, (hs.2 b (Nat.ne_of_lt (Nat.lt_of_lt_of_le (Heap.lt_size e) I.ok.above))).trans e1⟩
    · obtain ⟨o', e1⟩ := I.base.there b o e hx
      exact ⟨o', (hs.2 b (Nat.ne_of_lt (Nat.lt_of_lt_of_le (Heap.lt_size e) I.ok.above))).trans e1⟩
    · by_cases hj : j = i
      · subst hj
        rw [hi] at e1; cases e1
        rw [List.getElem?_set_self hiσ] at e2
        cases e2
        exact ⟨u, r, .inl ⟨hk, by simp⟩⟩
      · rw [List.getElem?_set_ne (Ne.symm hj)] at e2
        obtain ⟨u', r', q⟩ := hl j y v' e1 e2 e3
        refine ⟨u', r', ?_⟩
        rcases q with ⟨k, e⟩ | ⟨k, c, e, z⟩
        · refine .inl ⟨k, ?_⟩
          have : y ≠ x := fun e => hj (nodup_ix hN e1 (e ▸ hi))
          simp [this, e]
        · exact .inr ⟨k, c, e, z.sameBut hs (cne y c e)⟩
    · obtain ⟨w', z⟩ := I.cell y c e
      exact ⟨w', z.sameBut hs (cne y c e)⟩
    · obtain ⟨e, n, ne, nf, d⟩ := I.pin p hp
      exact ⟨(hs.2 p.1 ne).trans e, n, ne, nf, d⟩
  · have hfn : X.fn x = true := by
      rcases hf with z | z
      · exact z
      · rw [z] at hk; cases hk
    obtain ⟨c, hc⟩ := I.ok.has x (.inl hk)
    obtain ⟨w', z⟩ := I.cell x c hc
    refine wpAny_storeName_cell I.ok.kind hk hc z (fun h' hc' hs => ?_)
    obtain ⟨oc, hoc, hocd⟩ := id z
    refine h { s with heap := h' } ⟨I.ok, I.os, I.bare, ⟨fun b o e n hb hx => ?_, fun b o e n hb hx => ?_, I.base.free, fun b o e hx => ?_, I.base.tups, I.base.frzs, I.base.tbls⟩, ⟨m, hn.sameBut hs (Ne.symm (cne x c hc)), fun j y v' e1 e2 e3 => ?_⟩, fun y c' e => ?_, I.free, I.freeC, fun p hp => ?_, tracked ⟨oc, hoc, I.freeC x c hc⟩ hs, by simpa using I.len⟩ ⟨c, hs, .inr hc⟩
    · exact (hs.2 b (Nat.ne_of_lt (Nat.lt_of_lt_of_le (Heap.lt_size e) (I.ok.cab x c hfn hc)))).trans (I.base.keep b o e n hb hx)
    · obtain ⟨sl, e1⟩ := I.base.slot b o e n hb hx
      exact ⟨sl, (hs.2 b (Nat.ne_of_lt (Nat.lt_of_lt_of_le (Heap.lt_size e) (I.ok.cab x c hfn hc)))).trans e1⟩
    · obtain ⟨o', e1⟩ := I.base.there b o e hx
      exact ⟨o', (hs.2 b (Nat.ne_of_lt (Nat.lt_of_lt_of_le (Heap.lt_size e) (I.ok.cab x c hfn hc)))).trans e1⟩
    · by_cases hj : j = i
      · subst hj
        rw [hi] at e1; cases e1
        rw [List.getElem?_set_self hiσ] at e2
        cases e2
        exact ⟨u, r, .inr ⟨.inl hk, c, hc, hc'⟩⟩
      · rw [List.getElem?_set_ne (Ne.symm hj)] at e2
        obtain ⟨u', r', q⟩ := hl j y v' e1 e2 e3
        refine ⟨u', r', ?_⟩
        rcases q with q | ⟨k, c', e, z'⟩
        · exact .inl q
        · refine .inr ⟨k, c', e, z'.sameBut hs ?_⟩
          rintro rfl
          exact hj (nodup_ix hN e1 (I.ok.inj _ _ _ e hc ▸ hi))
    · by_cases hcc : c' = c
      · subst hcc; exact ⟨_, hc'⟩
      · obtain ⟨w2, z2⟩ := I.cell y c' e
        exact ⟨w2, z2.sameBut hs hcc⟩
    · obtain ⟨e, n, ne, nf, d⟩ := I.pin p hp
      refine ⟨(hs.2 p.1 ?_).trans e, n, ne, nf, d⟩
      intro q
      rw [q, hoc] at e
      have q' : oc = p.2 := Option.some.inj e
      exact d w' (by rw [← q']; exact hocd)
theorem store_ok {M : Model} {A : Around} {E : Value → Shared → Prop} {i : Nat} {x : Str} {v : V} {u : Value} {Q : Unit → Shared → Prop} (I : Inv X pins σ H s) (hN : X.N.Nodup) (hi : X.N[i]? = some x) (hx : Loc X.env.scope x) (r : RelV v u)
    (h : ∀ s', Inv X pins (σ.set i (some v)) H s' → Q () s') (hf : X.fn x = true ∨ X.env.scope.names.lookup x = some .local := by first | exact .inl rfl | exact .inr rfl | assumption) : wpAny M A (storeName X.env x u) Q E s :=
  store_ok2 I hN hi hx r (fun s' I' _ => h s' I') hf
/-- behind a call or a block, the state as it is -/
theorem Inv.call' {s' : Shared} {ch : List Addr} (I : Inv X pins σ H s) (ho : s'.os = s.os) (u : Un (frs X.stack) ch H H' s.heap s'.heap) (hok : HOk X.prog X.w H' s'.heap) (hg : AllBare s'.gens)
    (hch : ∀ b ∈ ch, (b ∈ X.ex ∨ X.s₀.heap.objs.size ≤ b) ∧ b ≠ X.env.locals ∧ (∀ x c, X.env.cells.lookup x = some c → c ≠ b) ∧ ∀ p ∈ X.pn ++ pins, p.1 ≠ b) : Inv X pins σ H' s' := by
  obtain ⟨h', g', d', t', o'⟩ := s'
  have e : o' = s.os := ho
  subst e
  exact I.call (g' := g') (t' := t') (d' := d') u hok hg hch
end

/-! ### the judgements -/
/-- an exception: its class, its own dict's address (where it has one), the abstract heap behind it -/
abbrev XK := Value → Option Addr → Hp → Prop
abbrev St := List (Option V)
abbrev VK := V → Hp → Prop
/-- an expression's reading; a test's; an argument list's -/
abbrev TE := St → Hp → VK → Prop
abbrev TT := St → Hp → (Bool → Hp → Prop) → Prop
abbrev TA := St → Hp → (List V → Hp → Prop) → Prop
/-- what is wanted behind a statement -/
structure Ends where
  nx : St → Hp → Prop
  rt : VK
  bk : St → Hp → Prop := fun _ _ => False
  ct : St → Hp → Prop := fun _ _ => False
abbrev TS := Ends → St → Hp → Prop

def EP (X : Cx) (pins : List (Addr × Obj)) (σ : St) (Q : VK) (u : Value) (s' : Shared) : Prop := ∃ v H', Inv X pins σ H' s' ∧ RelV v u ∧ Q v H'
def TP (X : Cx) (pins : List (Addr × Obj)) (σ : St) (Q : Bool → Hp → Prop) (b : Bool) (s' : Shared) : Prop := ∃ H', Inv X pins σ H' s' ∧ Q b H'
def AP (X : Cx) (pins : List (Addr × Obj)) (σ : St) (Q : List V → Hp → Prop) (us : List Value) (s' : Shared) : Prop := ∃ vs H', Inv X pins σ H' s' ∧ Vals vs us ∧ Q vs H'
def SP (X : Cx) (pins : List (Addr × Obj)) (D : Ends) (f : Flow) (s' : Shared) : Prop :=
  match f with
  | .next => ∃ σ' H', Inv X pins σ' H' s' ∧ D.nx σ' H'
  | .brk => ∃ σ' H', Inv X pins σ' H' s' ∧ D.bk σ' H'
  | .cont => ∃ σ' H', Inv X pins σ' H' s' ∧ D.ct σ' H'
  | .ret u => ∃ v σ' H', Inv X pins σ' H' s' ∧ RelV v u ∧ D.rt v H'

def PE (X : Cx) (e : Expr) (t : TE) : Prop :=
  ∀ (pins : List (Addr × Obj)) (s : Shared) (σ : St) (H : Hp) (Q : VK), Inv X pins σ H s → t σ H Q → wpAny (model X.prog X.w) X.A (eval e X.env) (EP X pins σ Q) X.xe s
def PT (X : Cx) (e : Expr) (t : TT) : Prop :=
  ∀ (pins : List (Addr × Obj)) (s : Shared) (σ : St) (H : Hp) (Q : Bool → Hp → Prop), Inv X pins σ H s → t σ H Q → wpAny (model X.prog X.w) X.A (isTrue e X.env (eval e X.env)) (TP X pins σ Q) X.xe s
/-- a test whatever its 'whole' is (and, or) -/
def PW (X : Cx) (e : Expr) (t : TT) : Prop :=
  ∀ (whole : Sem Value) (pins : List (Addr × Obj)) (s : Shared) (σ : St) (H : Hp) (Q : Bool → Hp → Prop), Inv X pins σ H s → t σ H Q → wpAny (model X.prog X.w) X.A (isTrue e X.env whole) (TP X pins σ Q) X.xe s
theorem PW.pt {X : Cx} {e : Expr} {t : TT} (h : PW X e t) : PT X e t := h _
/-- an argument list (no star), from the left -/
def PA (X : Cx) (es : List Expr) (t : TA) : Prop :=
  ∀ (pos : Pos) (pins : List (Addr × Obj)) (s : Shared) (σ : St) (H : Hp) (Q : List V → Hp → Prop), Inv X pins σ H s → t σ H Q → wpAny (model X.prog X.w) X.A (spliced (backTo pos (starEach es X.env))) (AP X pins σ Q) X.xe s
def PS (X : Cx) (st : Stmt) (t : TS) : Prop :=
  ∀ (pins : List (Addr × Obj)) (s : Shared) (σ : St) (H : Hp) (D : Ends), Inv X pins σ H s → t D σ H → wpAny (model X.prog X.w) X.A (exec st X.env) (SP X pins D) X.xe s
def PSs (X : Cx) (st : List Stmt) (t : TS) : Prop :=
  ∀ (pins : List (Addr × Obj)) (s : Shared) (σ : St) (H : Hp) (D : Ends), Inv X pins σ H s → t D σ H → wpAny (model X.prog X.w) X.A (execs st X.env) (SP X pins D) X.xe s
/-- weaken the end -/
theorem thn {α : Type} {t : Sem α} {Q Q' : α → Shared → Prop} {M : Model} {A : Around} {E : Value → Shared → Prop} {s : Shared} (h : wpAny M A t Q E s) (hQ : ∀ a s, Q a s → Q' a s) : wpAny M A t Q' E s := wpAny_mono h hQ fun _ _ x => x
end L2

namespace L2
open PySem PySem.Spec PyProof.Rows
section
variable {X : Cx}

/-- two expressions in a row -/
theorem bin {a b : Expr} {ta tb : TE} (ha : PE X a ta) (hb : PE X b tb) {pins : List (Addr × Obj)} {s : Shared} {σ : St} {H : Hp} {R : V → V → Hp → Prop} (I : Inv X pins σ H s) (h : ta σ H fun x H1 => tb σ H1 fun y H2 => R x y H2)
    {α : Type} {Q : α → Shared → Prop} {f : Value → Value → Sem α}
    (hf : ∀ v u s2 x y H2, Inv X pins σ H2 s2 → RelV x v → RelV y u → R x y H2 → wpAny (model X.prog X.w) X.A (f v u) Q X.xe s2) :
    wpAny (model X.prog X.w) X.A (eval a X.env) (fun v s₁ => wpAny (model X.prog X.w) X.A (eval b X.env) (fun u s₂ => wpAny (model X.prog X.w) X.A (f v u) Q X.xe s₂) X.xe s₁) X.xe s := by
  refine thn (ha pins s σ H _ I h) fun v s1 ⟨x, H1, I1, r1, q1⟩ => ?_
  refine thn (hb pins s1 σ H1 _ I1 q1) fun u s2 ⟨y, H2, I2, r2, q2⟩ => ?_
  exact hf v u s2 x y H2 I2 r1 r2 q2

/-! ### names and constants -/
def tVar (i : Nat) : TE := fun σ H Q => ∃ v, σ[i]? = some (some v) ∧ Q v H
def tC (v : V) : TE := fun _ H Q => Q v H
theorem pe_var {i : Nat} {x : Str} {pos : Pos} (hN : X.N[i]? = some x) (hv : Vis X.env.scope x) (hd : (x == ("__debug__" : Str)) = false := by decide) (hcd : (x == ("__classdict__" : Str)) = false := by decide) : PE X (.Name x pos) (tVar i) := by
  intro pins s σ H Q I h
  obtain ⟨v, e, h⟩ := h
  obtain ⟨m, hn, hl⟩ := I.loc
  obtain ⟨u, r, l⟩ := hl i x v hN e hv
  have fin : EP X pins σ Q u s := ⟨v, H, I, r, h⟩
  rcases l with ⟨hk, hm⟩ | ⟨hk, c, hc, hcell⟩
  · exact wpAny_Name (wpAny_loadName_local I.ok.kind hk hn hm fin) hd
  · rcases hk with hk | hk
    · exact wpAny_Name (wpAny_loadName_cell I.ok.kind hk hc hcell fin) hd
    · exact wpAny_Name (wpAny_loadName_free I.ok.kind hk hc hcell fin hcd) hd
theorem pe_int {i j pos} : PE X (.Constant (.int i) j pos) (tC (.int i)) := fun _ _ _ H _ I h => wpAny_Constant_int ⟨.int i, H, I.tok _, ⟨_, rfl⟩, h⟩
theorem pe_bl {b j pos} : PE X (.Constant (.bool b) j pos) (tC (.bl b)) := fun _ _ _ H _ I h => Constant_bool ⟨.bl b, H, I, rfl, h⟩
theorem pe_non {j pos} : PE X (.Constant .none j pos) (tC .non) := fun _ _ _ H _ I h => Constant_none ⟨.non, H, I, rfl, h⟩
theorem pe_str {x j pos} : PE X (.Constant (.str x) j pos) (tC (.str x)) := fun _ _ _ H _ I h => Calls.Constant_str ⟨.str x, H, I.tok _, ⟨_, rfl⟩, h⟩

/-- a global name of the def -/
def Gl (X : Cx) (x : Str) : Prop := X.env.kindOf x = some .globalImplicit
theorem ld_glob {E : Value → Shared → Prop} {pins : List (Addr × Obj)} {s : Shared} {σ : St} {H : Hp} {x : Str} {u : Value} {pos : Pos} {Q : Value → Shared → Prop} (I : Inv X pins σ H s) (hg : Gl X x) (hm : X.mg x = some u) (h : Q u s)
    (hd : (x == ("__debug__" : Str)) = false := by decide) : wpAny (model X.prog X.w) X.A (eval (.Name x pos) X.env) Q E s :=
  Calls.Name_function_global I.ok.kind hg (Calls.loadGlobal_global (by rw [I.ok.glob]; exact I.mod.glob.keeps I.bk) hm h) hd
theorem ld_blt {E : Value → Shared → Prop} {pins : List (Addr × Obj)} {s : Shared} {σ : St} {H : Hp} {x : Str} {u : Value} {pos : Pos} {Q : Value → Shared → Prop} (I : Inv X pins σ H s) (hg : Gl X x) (hm : X.mg x = none) (hv : bootBuiltins x = some u) (h : Q u s)
    (hn : x ≠ "__name__" := by decide) (hd : (x == ("__debug__" : Str)) = false := by decide) : wpAny (model X.prog X.w) X.A (eval (.Name x pos) X.env) Q E s := by
  obtain ⟨mb, h1, h2⟩ := I.mod.blt
  exact Calls.Name_function_global I.ok.kind hg (Calls.loadGlobal_builtin (by rw [I.ok.glob]; exact I.mod.glob.keeps I.bk) hm (by rw [I.ok.blt]; exact h1.keeps I.bk) ((h2 x hn).trans hv) h) hd
/-- a module's constant, a class, a function, as a value -/
theorem pe_glob {x : Str} {v : V} {u : Value} {pos : Pos} (hg : Gl X x) (hm : X.mg x = some u) (r : RelV v u) (hd : (x == ("__debug__" : Str)) = false := by decide) : PE X (.Name x pos) (tC v) :=
  fun _ _ _ H _ I h => ld_glob I hg hm ⟨v, H, I, r, h⟩ hd
theorem pe_bltn {x : Str} {v : V} {u : Value} {pos : Pos} (hg : Gl X x) (hm : X.mg x = none) (hv : bootBuiltins x = some u) (r : RelV v u) (hn : x ≠ "__name__" := by decide) (hd : (x == ("__debug__" : Str)) = false := by decide) : PE X (.Name x pos) (tC v) :=
  fun _ _ _ H _ I h => ld_blt I hg hm hv ⟨v, H, I, r, h⟩ hn hd

/-! ### arithmetic -/
/-- two ints -/
def t2I (ta tb : TE) (k : Int → Int → Hp → Prop) : St → Hp → Prop := fun σ H => ta σ H fun x H1 => tb σ H1 fun y H2 => ∃ i j, x = .int i ∧ y = .int j ∧ k i j H2
def tAdd (ta tb : TE) : TE := fun σ H Q => t2I ta tb (fun i j H2 => Q (.int (i + j)) H2) σ H
def tSub (ta tb : TE) : TE := fun σ H Q => t2I ta tb (fun i j H2 => Q (.int (i - j)) H2) σ H
/-- the left factor below 2^64 -/
def tMul (ta tb : TE) : TE := fun σ H Q => t2I ta tb (fun i j H2 => (-(2 ^ 64) < i ∧ i < 2 ^ 64) ∧ Q (.int (i * j)) H2) σ H
variable {a b : Expr} {ta tb : TE} {pos : Pos}
theorem pe_add (ha : PE X a ta) (hb : PE X b tb) : PE X (.BinOp a .Add b pos) (tAdd ta tb) := by
  intro pins s σ H Q I h
  refine wpAny_BinOp (bin ha hb I h fun v u s2 x y H2 I2 rx ry q => ?_)
  obtain ⟨i, j, rfl, rfl, q⟩ := q
  obtain ⟨t, rfl⟩ := rx
  obtain ⟨t', rfl⟩ := ry
  exact add_int ⟨.int _, H2, I2.tok _, ⟨_, rfl⟩, q⟩
theorem pe_sub (ha : PE X a ta) (hb : PE X b tb) : PE X (.BinOp a .Sub b pos) (tSub ta tb) := by
  intro pins s σ H Q I h
  refine wpAny_BinOp (bin ha hb I h fun v u s2 x y H2 I2 rx ry q => ?_)
  obtain ⟨i, j, rfl, rfl, q⟩ := q
  obtain ⟨t, rfl⟩ := rx
  obtain ⟨t', rfl⟩ := ry
  exact sub_int ⟨.int _, H2, I2.tok _, ⟨_, rfl⟩, q⟩
theorem pe_mul (ha : PE X a ta) (hb : PE X b tb) : PE X (.BinOp a .Mult b pos) (tMul ta tb) := by
  intro pins s σ H Q I h
  refine wpAny_BinOp (bin ha hb I h fun v u s2 x y H2 I2 rx ry q => ?_)
  obtain ⟨i, j, rfl, rfl, ⟨q1, q2⟩, q⟩ := q
  obtain ⟨t, rfl⟩ := rx
  obtain ⟨t', rfl⟩ := ry
  exact mul_int ⟨.int _, H2, I2.tok _, ⟨_, rfl⟩, q⟩ (.of_left (intBits_le_64 q1 q2))

/-! ### comparisons -/
def PC (X : Cx) (op : CmpOp) (a b : Expr) (t : TE) : Prop :=
  ∀ (pins : List (Addr × Obj)) (s : Shared) (σ : St) (H : Hp) (Q : VK), Inv X pins σ H s → t σ H Q →
    wpAny (model X.prog X.w) X.A (eval a X.env) (fun v s₁ => wpAny (model X.prog X.w) X.A (eval b X.env) (fun u s₂ => wpAny (model X.prog X.w) X.A (compareOp op v u) (EP X pins σ Q) X.xe s₂) X.xe s₁) X.xe s
theorem nobehind (b : Expr) {op : CmpOp} (h : op ≠ .In) (h2 : op ≠ .NotIn) : behindInMarks op b = false := by
  have e1 : (op == CmpOp.In) = false := by cases op <;> first | rfl | exact absurd rfl h
  have e2 : (op == CmpOp.NotIn) = false := by cases op <;> first | rfl | exact absurd rfl h2
  cases b <;> simp [behindInMarks, e1, e2]
def tCmp (p : Int → Int → Bool) (ta tb : TE) : TE := fun σ H Q => t2I ta tb (fun i j H2 => Q (.bl (p i j)) H2) σ H
abbrev tLt : TE → TE → TE := tCmp fun i j => decide (i < j)
abbrev tLe : TE → TE → TE := tCmp fun i j => decide (i ≤ j)
abbrev tGt : TE → TE → TE := tCmp fun i j => decide (j < i)
abbrev tGe : TE → TE → TE := tCmp fun i j => decide (j ≤ i)
abbrev tEqI : TE → TE → TE := tCmp fun i j => decide (i = j)
abbrev tNeI : TE → TE → TE := tCmp fun i j => !decide (i = j)
/-- a comparison of two ints, by its rule -/
theorem pc_int {op : CmpOp} {p : Int → Int → Bool} (ha : PE X a ta) (hb : PE X b tb)
    (rule : ∀ (i j : Int) (t u : Tok) (Q : Value → Shared → Prop) (s : Shared), Q (.bool (p i j)) s → wpAny (model X.prog X.w) X.A (compareOp op (.int i t) (.int j u)) Q X.xe s) : PC X op a b (tCmp p ta tb) := by
  intro pins s σ H Q I h
  refine bin ha hb I h fun v u s2 x y H2 I2 rx ry q => ?_
  obtain ⟨i, j, rfl, rfl, q⟩ := q
  obtain ⟨t, rfl⟩ := rx
  obtain ⟨t', rfl⟩ := ry
  exact rule i j t t' _ s2 ⟨.bl _, H2, I2, rfl, q⟩
theorem pc_lt (ha : PE X a ta) (hb : PE X b tb) : PC X .Lt a b (tLt ta tb) := pc_int ha hb fun _ _ _ _ _ _ h => lt_int h
theorem pc_le (ha : PE X a ta) (hb : PE X b tb) : PC X .LtE a b (tLe ta tb) := pc_int ha hb fun _ _ _ _ _ _ h => le_int h
theorem pc_gt (ha : PE X a ta) (hb : PE X b tb) : PC X .Gt a b (tGt ta tb) := pc_int ha hb fun _ _ _ _ _ _ h => gt_int h
theorem pc_ge (ha : PE X a ta) (hb : PE X b tb) : PC X .GtE a b (tGe ta tb) := pc_int ha hb fun _ _ _ _ _ _ h => ge_int h
theorem pc_eqI (ha : PE X a ta) (hb : PE X b tb) : PC X .Eq a b (tEqI ta tb) := pc_int ha hb fun _ _ _ _ _ _ h => eq_int (by rw [Bool.beq_eq_decide_eq]; exact h)
theorem pc_neI (ha : PE X a ta) (hb : PE X b tb) : PC X .NotEq a b (tNeI ta tb) := pc_int ha hb fun _ _ _ _ _ _ h => ne_int (by rw [bne, Bool.beq_eq_decide_eq]; exact h)
/-- is None -/
def tIsN (ta : TE) : TE := fun σ H Q => ta σ H fun x H1 => Q (.bl (decide (x = .non))) H1
def tNotN (ta : TE) : TE := fun σ H Q => ta σ H fun x H1 => Q (.bl (!decide (x = .non))) H1
theorem RelV.none_iff {x : V} {v : Value} (r : RelV x v) : (v == Value.none) = decide (x = .non) := by
  cases x with
  | non => cases r; rfl
  | bl _ => cases r; rfl
  | int _ => obtain ⟨t, rfl⟩ := r; rfl
  | str _ => obtain ⟨t, rfl⟩ := r; rfl
  | byt _ => obtain ⟨t, rfl⟩ := r; rfl
  | flt _ => obtain ⟨t, rfl⟩ := r; rfl
  | ref _ => cases r; rfl
  | ty _ => cases r; rfl
theorem pc_isN {j pos'} (ha : PE X a ta) : PC X .Is a (.Constant .none j pos') (tIsN ta) := by
  intro pins s σ H Q I h
  refine thn (ha pins s σ H _ I h) fun v s1 ⟨x, H1, I1, r1, q1⟩ => ?_
  exact Constant_none (is_none_gen ⟨.bl _, H1, I1, by rw [r1.none_iff]; rfl, q1⟩)
theorem pc_notN {j pos'} (ha : PE X a ta) : PC X .IsNot a (.Constant .none j pos') (tNotN ta) := by
  intro pins s σ H Q I h
  refine thn (ha pins s σ H _ I h) fun v s1 ⟨x, H1, I1, r1, q1⟩ => ?_
  exact Constant_none (isnot_none_gen ⟨.bl _, H1, I1, by rw [r1.none_iff]; rfl, q1⟩)
/-- a comparison as a value, as a test -/
def tB (t : TE) : TT := fun σ H Q => t σ H fun x H1 => ∃ c, x = .bl c ∧ Q c H1
theorem pe_cmp {op : CmpOp} {t : TE} (h : PC X op a b t) (h1 : behindInMarks op b = false := by first | exact nobehind _ (by decide) (by decide) | rfl) : PE X (.Compare a [op] [b] pos) t := fun pins s σ H Q I hw => wpAny_Compare1 (h pins s σ H Q I hw) h1
theorem pt_cmp {op : CmpOp} {t : TE} (h : PC X op a b t) (h1 : behindInMarks op b = false := by first | exact nobehind _ (by decide) (by decide) | rfl) : PT X (.Compare a [op] [b] pos) (tB t) := by
  intro pins s σ H Q I hw
  refine wpAny_isTrue_Compare1 (thn (h pins s σ H _ I hw) fun v s1 h1 => thn h1 fun u s2 h2 => thn h2 fun c s3 ⟨x, H1, I1, r1, q1⟩ => ?_) h1
  obtain ⟨d, rfl, q⟩ := q1
  cases r1
  exact wpAny_truthy_bool ⟨H1, I1, q⟩
/-- an expression whose value is a bool, as a test -/
theorem pt_val {e : Expr} {t : TE} (h : PE X e t) (he : ∀ whole, isTrue e X.env whole = (do let v ← whole; standAt e.pos; holding [v] (truthy v)) := by intro _; rfl) : PT X e (tB t) := by
  intro pins s σ H Q I hw
  refine isTrue_plain (thn (h pins s σ H _ I hw) fun v s1 ⟨x, H1, I1, r1, q1⟩ => ?_) (he _)
  obtain ⟨d, rfl, q⟩ := q1
  cases r1
  exact wpAny_truthy_bool ⟨H1, I1, q⟩

/-! ### and, or, not -/
variable {tA tB' : TT} {rest : List Expr}
def tAnd (t u : TT) : TT := fun σ H Q => t σ H fun c H1 => if c = true then u σ H1 Q else Q false H1
def tOr (t u : TT) : TT := fun σ H Q => t σ H fun c H1 => if c = true then Q true H1 else u σ H1 Q
def tNot (t : TT) : TT := fun σ H Q => t σ H fun c H1 => Q (!c) H1
theorem pw_and1 (ha : PT X a tA) : PW X (.BoolOp .And [a] pos) tA := by
  intro wh pins s σ H Q I h
  refine isTrue_and (thn (ha pins s σ H Q I h) fun c s1 e => ?_)
  cases c with
  | true => exact isTrue_and_nil e
  | false => exact e
theorem pw_or1 (ha : PT X a tA) : PW X (.BoolOp .Or [a] pos) tA := by
  intro wh pins s σ H Q I h
  refine isTrue_or (thn (ha pins s σ H Q I h) fun c s1 e => ?_)
  cases c with
  | false => exact isTrue_or_nil e
  | true => exact e
theorem pw_and (ha : PT X a tA) (hb : PW X (.BoolOp .And (b :: rest) pos) tB') : PW X (.BoolOp .And (a :: b :: rest) pos) (tAnd tA tB') := by
  intro wh pins s σ H Q I h
  refine isTrue_and (thn (ha pins s σ H _ I h) fun c s1 ⟨H1, I1, q1⟩ => ?_)
  cases c with
  | true => exact hb wh pins s1 σ H1 Q I1 q1
  | false => exact ⟨H1, I1, q1⟩
theorem pw_or (ha : PT X a tA) (hb : PW X (.BoolOp .Or (b :: rest) pos) tB') : PW X (.BoolOp .Or (a :: b :: rest) pos) (tOr tA tB') := by
  intro wh pins s σ H Q I h
  refine isTrue_or (thn (ha pins s σ H _ I h) fun c s1 ⟨H1, I1, q1⟩ => ?_)
  cases c with
  | true => exact ⟨H1, I1, q1⟩
  | false => exact hb wh pins s1 σ H1 Q I1 q1
theorem pt_not (ha : PT X a tA) : PT X (.UnaryOp .Not a pos) (tNot tA) := by
  intro pins s σ H Q I h
  exact isTrue_not (ha pins s σ H (fun c H1 => Q (!c) H1) I h)
/-- .. as values (bools) -/
def tAndV (ta tb : TE) : TE := fun σ H Q => ta σ H fun x H1 => ∃ c, x = .bl c ∧ if c = true then tb σ H1 Q else Q (.bl false) H1
def tOrV (ta tb : TE) : TE := fun σ H Q => ta σ H fun x H1 => ∃ c, x = .bl c ∧ if c = true then Q (.bl true) H1 else tb σ H1 Q
def tNotV (ta : TE) : TE := fun σ H Q => ta σ H fun x H1 => ∃ c, x = .bl c ∧ Q (.bl (!c)) H1
theorem pe_one {op} {t : TE} (h : PE X a t) : PE X (.BoolOp op [a] pos) t := fun pins s σ H Q I hw => BoolOp_one (h pins s σ H Q I hw)
theorem pe_and (ha : PE X a ta) (hb : PE X (.BoolOp .And (b :: rest) pos) tb) : PE X (.BoolOp .And (a :: b :: rest) pos) (tAndV ta tb) := by
  intro pins s σ H Q I h
  refine BoolOp_and (thn (ha pins s σ H _ I h) fun v s1 ⟨x, H1, I1, r1, q1⟩ => ?_)
  obtain ⟨c, rfl, q1⟩ := q1
  cases r1
  refine wpAny_truthy_bool ?_
  cases c with
  | true => exact hb pins s1 σ H1 Q I1 q1
  | false => exact ⟨.bl false, H1, I1, rfl, q1⟩
theorem pe_or (ha : PE X a ta) (hb : PE X (.BoolOp .Or (b :: rest) pos) tb) : PE X (.BoolOp .Or (a :: b :: rest) pos) (tOrV ta tb) := by
  intro pins s σ H Q I h
  refine BoolOp_or (thn (ha pins s σ H _ I h) fun v s1 ⟨x, H1, I1, r1, q1⟩ => ?_)
  obtain ⟨c, rfl, q1⟩ := q1
  cases r1
  refine wpAny_truthy_bool ?_
  cases c with
  | false => exact hb pins s1 σ H1 Q I1 q1
  | true => exact ⟨.bl true, H1, I1, rfl, q1⟩
theorem pe_not (ha : PE X a ta) : PE X (.UnaryOp .Not a pos) (tNotV ta) := by
  intro pins s σ H Q I h
  refine UnaryOp_ (thn (ha pins s σ H _ I h) fun v s1 ⟨x, H1, I1, r1, q1⟩ => ?_)
  obtain ⟨c, rfl, q1⟩ := q1
  cases r1
  exact not_of (wpAny_truthy_bool ⟨.bl (!c), H1, I1, rfl, q1⟩)
/-- a if t else b -/
def tIf (t : TT) (ta tb : TE) : TE := fun σ H Q => t σ H fun c H1 => if c = true then ta σ H1 Q else tb σ H1 Q
theorem pe_ifExp {c : Expr} (hc : PT X c tA) (ha : PE X a ta) (hb : PE X b tb) : PE X (.IfExp c a b pos) (tIf tA ta tb) := by
  intro pins s σ H Q I h
  refine wpAny_IfExp (thn (hc pins s σ H _ I h) fun d s1 ⟨H1, I1, q1⟩ => ?_)
  cases d with
  | true => exact ha pins s1 σ H1 Q I1 q1
  | false => exact hb pins s1 σ H1 Q I1 q1
end
end L2

namespace L2
open PySem PySem.Spec PyProof.Rows

/-! ### a list, a tuple that is read: tracked, frozen, or an object of the module -/
def SqL (K : PySem.W.Frag) (H : Hp) (a : Addr) (xs : List V) : Prop :=
  Rd H a (.lst xs) ∨
    ∃ (o : Obj) (its : Array Value) (n : Nat), K.lookup a = some o ∧ o.cls = .type "list" ∧ o.dict = none ∧ o.data = .seq its n ∧ its.size ≤ sizeLine ∧ Vals xs its.toList
def SqT (K : PySem.W.Frag) (H : Hp) (a : Addr) (xs : List V) : Prop :=
  Rd H a (.tup xs) ∨
    ∃ (o : Obj) (its : Array Value) (n : Nat), K.lookup a = some o ∧ o.cls = .type "tuple" ∧ o.data = .seq its n ∧ its.size ≤ sizeLine ∧ Vals xs its.toList
def absV : Value → Option V
  | .none => some .non
  | .bool b => some (.bl b)
  | .int i _ => some (.int i)
  | .str x _ => some (.str x)
  | .bytes b _ => some (.byt b)
  | .float b _ => some (.flt b)
  | .ref a => some (.ref a)
  | .type n => some (.ty n)
  | _ => none
theorem RelV.abs {x : V} {u : Value} (r : RelV x u) : absV u = some x := by
  cases x with
  | non => cases r; rfl
  | bl _ => cases r; rfl
  | int _ => obtain ⟨t, rfl⟩ := r; rfl
  | str _ => obtain ⟨t, rfl⟩ := r; rfl
  | byt _ => obtain ⟨t, rfl⟩ := r; rfl
  | flt _ => obtain ⟨t, rfl⟩ := r; rfl
  | ref _ => cases r; rfl
  | ty _ => cases r; rfl
theorem RelV.inj {x y : V} {u : Value} (r : RelV x u) (q : RelV y u) : x = y := Option.some.inj (r.abs.symm.trans q.abs)
theorem Vals.inj : ∀ {xs ys : List V} {us : List Value}, Vals xs us → Vals ys us → xs = ys
  | _, _, _, .nil, .nil => rfl
  | _, _, _, .cons r t, .cons r' t' => by rw [r.inj r', Vals.inj t t']
section
variable {X : Cx} {pins : List (Addr × Obj)} {σ : St} {H : Hp} {s : Shared} {a : Addr} {xs ys : List V}
theorem SqL.of {K : PySem.W.Frag} (h : H a = some (.lst xs)) : SqL K H a xs := .inl (.inl h)
theorem SqT.of {K : PySem.W.Frag} (h : H a = some (.tup xs)) : SqT K H a xs := .inl (.inl h)
theorem Inv.list (I : Inv X pins σ H s) (h : SqL X.K H a xs) : ∃ its : List Value, Vals xs its ∧ PlainL s.heap a its.toArray ∧ xs.length ≤ sizeLine := by
  rcases h with h | ⟨o, its, n, hk, hc, hd, hs, hz, r⟩
  · obtain ⟨z, its, n, r, e⟩ := h.ok I.hok
    exact ⟨its, r, ⟨_, n, e, rfl, rfl, rfl⟩, z⟩
  · refine ⟨its.toList, r, ⟨o, n, I.kIn a o hk, hc, hd, by simpa using hs⟩, ?_⟩
    have e := r.length
    simp only [Array.length_toList] at e
    omega
theorem Inv.tuple (I : Inv X pins σ H s) (h : SqT X.K H a xs) : ∃ its : List Value, Vals xs its ∧ IsTup s.heap a its.toArray ∧ xs.length ≤ sizeLine := by
  rcases h with h | ⟨o, its, n, hk, hc, hs, hz, r⟩
  · obtain ⟨z, its, r, p⟩ := h.ok I.hok
    exact ⟨its, r, p, z⟩
  · refine ⟨its.toList, r, ⟨o, I.kIn a o hk, hc, n, by simpa using hs⟩, ?_⟩
    have e := r.length
    simp only [Array.length_toList] at e
    omega
theorem Inv.list_inj (I : Inv X pins σ H s) (h : SqL X.K H a xs) (h' : SqL X.K H a ys) : xs = ys := by
  obtain ⟨its, r, ⟨o, n, e, _, _, d⟩, _⟩ := I.list h
  obtain ⟨its', r', ⟨o', n', e', _, _, d'⟩, _⟩ := I.list h'
  rw [e] at e'; cases e'
  rw [d] at d'
  injection d' with d1 _
  have : its = its' := by simpa using congrArg Array.toList d1
  subst this
  exact r.inj r'
theorem Inv.tuple_inj (I : Inv X pins σ H s) (h : SqT X.K H a xs) (h' : SqT X.K H a ys) : xs = ys := by
  obtain ⟨its, r, ⟨o, e, _, n, d⟩, _⟩ := I.tuple h
  obtain ⟨its', r', ⟨o', e', _, n', d'⟩, _⟩ := I.tuple h'
  rw [e] at e'; cases e'
  rw [d] at d'
  injection d' with d1 _
  have : its = its' := by simpa using congrArg Array.toList d1
  subst this
  exact r.inj r'
end

/-! ### another wish about exceptions -/
abbrev Cx.wish (X : Cx) (E : Value → Shared → Prop) : Cx := { X with xe := E }
/-- no exception leaves -/
abbrev Cx.nox (X : Cx) : Cx := X.wish fun _ _ => False
theorem Cx.Ok.wish {X : Cx} (ok : X.Ok) (E : Value → Shared → Prop) : (X.wish E).Ok :=
  ⟨ok.mod, ok.kind, ok.glob, ok.blt, ok.above, ok.inj, ok.has, ok.cab, ok.hd, ok.frames, ok.stk, ok.exf, ok.bs, ok.bsz, ok.noex, ok.exfs, ok.funs, ok.frf⟩
theorem Cx.Ok.unwish {X : Cx} {E : Value → Shared → Prop} (ok : (X.wish E).Ok) : X.Ok :=
  ⟨ok.mod, ok.kind, ok.glob, ok.blt, ok.above, ok.inj, ok.has, ok.cab, ok.hd, ok.frames, ok.stk, ok.exf, ok.bs, ok.bsz, ok.noex, ok.exfs, ok.funs, ok.frf⟩
section
variable {X : Cx} {pins : List (Addr × Obj)} {σ : St} {H : Hp} {s : Shared} {E : Value → Shared → Prop}
theorem Inv.wish (I : Inv X pins σ H s) (E : Value → Shared → Prop) : Inv (X.wish E) pins σ H s := ⟨I.ok.wish E, I.os, I.bare, I.base, I.loc, I.cell, I.free, I.freeC, I.pin, I.hok, I.len⟩
theorem Inv.unwish (I : Inv (X.wish E) pins σ H s) : Inv X pins σ H s := ⟨I.ok.unwish, I.os, I.bare, I.base, I.loc, I.cell, I.free, I.freeC, I.pin, I.hok, I.len⟩
theorem SP.unwish {D : Ends} {f : Flow} {s' : Shared} (h : SP (X.wish E) pins D f s') : SP X pins D f s' := by
  cases f with
  | next => obtain ⟨σ', H', I, q⟩ := h; exact ⟨σ', H', I.unwish, q⟩
  | brk => obtain ⟨σ', H', I, q⟩ := h; exact ⟨σ', H', I.unwish, q⟩
  | cont => obtain ⟨σ', H', I, q⟩ := h; exact ⟨σ', H', I.unwish, q⟩
  | ret u => obtain ⟨v, σ', H', I, r, q⟩ := h; exact ⟨v, σ', H', I.unwish, r, q⟩
theorem PE.nox {e : Expr} {t : TE} (h : PE X.nox e t) : PE X e t := fun pins s σ H Q I hw =>
  wpAny_mono (h pins s σ H Q (I.wish _) hw) (fun _ _ ⟨v, H', I', r, q⟩ => ⟨v, H', I'.unwish, r, q⟩) fun _ _ z => False.elim z
theorem PT.nox {e : Expr} {t : TT} (h : PT X.nox e t) : PT X e t := fun pins s σ H Q I hw =>
  wpAny_mono (h pins s σ H Q (I.wish _) hw) (fun _ _ ⟨H', I', q⟩ => ⟨H', I'.unwish, q⟩) fun _ _ z => False.elim z
theorem PSs.nox {st : List Stmt} {t : TS} (h : PSs X.nox st t) : PSs X st t := fun pins s σ H D I hw =>
  wpAny_mono (h pins s σ H D (I.wish _) hw) (fun _ _ q => q.unwish) fun _ _ z => False.elim z
end

/-! ### blocks and small statements -/
section
variable {X : Cx} {st : Stmt} {rest : List Stmt} {t u : TS} {e : Expr} {te : TE} {pos : Pos}
def tNext : TS := fun D σ H => D.nx σ H
def tSeq (t u : TS) : TS := fun D σ H => t { D with nx := u D } σ H
theorem pss_nil : PSs X [] tNext := fun _ _ σ H _ I h => wpAny_execs_nil ⟨σ, H, I, h⟩
theorem pss_cons (h1 : PS X st t) (h2 : PSs X rest u) : PSs X (st :: rest) (tSeq t u) := by
  intro pins s σ H D I h
  refine wpAny_execs_cons (thn (h1 pins s σ H { D with nx := u D } I h) fun f s1 q => ?_)
  cases f with
  | next =>
    obtain ⟨σ', H', I', q⟩ := q
    exact h2 pins s1 σ' H' D I' q
  | ret v => exact q
  | brk => exact q
  | cont => exact q
theorem pss_one (h1 : PS X st t) : PSs X [st] t := by
  intro pins s σ H D I h
  refine wpAny_execs_cons (thn (h1 pins s σ H D I h) fun f s1 q => ?_)
  cases f with
  | next => exact wpAny_execs_nil q
  | ret v => exact q
  | brk => exact q
  | cont => exact q
def tBreak : TS := fun D σ H => D.bk σ H
def tCont : TS := fun D σ H => D.ct σ H
theorem ps_pass : PS X (.Pass pos) tNext := fun _ _ σ H _ I h => wpAny_Pass ⟨σ, H, I, h⟩
theorem ps_break : PS X (.Break pos) tBreak := fun _ _ σ H _ I h => wpAny_Break ⟨σ, H, I, h⟩
theorem ps_continue : PS X (.Continue pos) tCont := fun _ _ σ H _ I h => wpAny_Continue ⟨σ, H, I, h⟩
/-- in a def's body nothing is shown -/
theorem Inv.quiet {pins : List (Addr × Obj)} {σ : St} {H : Hp} {s : Shared} (I : Inv X pins σ H s) : interactive X.env = false := by simp [interactive, I.ok.kind]
/-- a docstring -/
theorem ps_doc {x j pos pos'} : PS X (.Expr (.Constant (.str x) j pos) pos') tNext := fun _ s σ H _ I h => wpAny_Expr (Calls.Constant_str (show SP X _ _ .next { s with toks := s.toks + 1 } from ⟨σ, H, I.tok _, h⟩)) I.quiet
/-- an expression whose value is dropped -/
def tDrop (te : TE) : TS := fun D σ H => te σ H fun _ H1 => D.nx σ H1
theorem ps_expr (he : PE X e te) (hs : swapsWith e none pos.line X.env = pure false := by rfl) : PS X (.Expr e pos) (tDrop te) := by
  intro pins s σ H D I h
  exact wpAny_Expr_any (thn (he pins s σ H _ I h) fun v s1 ⟨x, H1, I1, r1, q1⟩ => ⟨σ, H1, I1, q1⟩) I.quiet hs
def tRet (te : TE) : TS := fun D σ H => te σ H D.rt
theorem ps_ret (he : PE X e te) : PS X (.Return (some e) pos) (tRet te) := by
  intro pins s σ H D I h
  exact wpAny_Return_some (thn (he pins s σ H _ I h) fun v s1 ⟨x, H1, I1, r1, q1⟩ => ⟨x, σ, H1, I1, r1, q1⟩)
def tRetN : TS := fun D _ H => D.rt .non H
theorem ps_retN : PS X (.Return none pos) tRetN := fun _ _ σ H _ I h => wpAny_Return_none ⟨.non, σ, H, I, rfl, h⟩
def tIfS (c : TT) (t u : TS) : TS := fun D σ H => c σ H fun b H1 => if b = true then t D σ H1 else u D σ H1
theorem ps_if {c : Expr} {a b : List Stmt} {tc : TT} (hc : PT X c tc) (ha : PSs X a t) (hb : PSs X b u) : PS X (.If c a b pos) (tIfS tc t u) := by
  intro pins s σ H D I h
  refine wpAny_If (thn (hc pins s σ H _ I h) fun d s1 ⟨H1, I1, q1⟩ => ?_)
  cases d with
  | true => exact ha pins s1 σ H1 D I1 q1
  | false => exact hb pins s1 σ H1 D I1 q1
/-- code that the proof never comes to -/
def tNever : TS := fun _ _ _ => False
theorem ps_never : PS X st tNever := fun _ _ _ _ _ _ h => h.elim
theorem pss_never {sts : List Stmt} : PSs X sts tNever := fun _ _ _ _ _ _ h => h.elim
end

/-! ### targets -/
abbrev TG := V → St → Hp → (St → Hp → Prop) → Prop
abbrev TGs := List V → St → Hp → (St → Hp → Prop) → Prop
def PG (X : Cx) (target : Expr) (t : TG) : Prop :=
  ∀ (pins : List (Addr × Obj)) (s : Shared) (σ : St) (H : Hp) (v : V) (u : Value) (Q : St → Hp → Prop), Inv X pins σ H s → RelV v u → t v σ H Q →
    wpAny (model X.prog X.w) X.A (assign target X.env u) (fun _ s' => ∃ σ' H', Inv X pins σ' H' s' ∧ Q σ' H') X.xe s
/-- several targets, one after another -/
def PGs (X : Cx) (ts : List Expr) (t : TGs) : Prop :=
  ∀ (pins : List (Addr × Obj)) (s : Shared) (σ : St) (H : Hp) (vs : List V) (us : List Value) (Q : St → Hp → Prop), Inv X pins σ H s → Vals vs us → t vs σ H Q →
    wpAny (model X.prog X.w) X.A (assignInOrder ((assignEach ts X.env).map (·.2)) us) (fun _ s' => ∃ σ' H', Inv X pins σ' H' s' ∧ Q σ' H') X.xe s
/-- o[i] = v, by values -/
abbrev TSet := V → V → V → Hp → (Hp → Prop) → Prop
def PSet (X : Cx) (t : TSet) : Prop :=
  ∀ (pins : List (Addr × Obj)) (s : Shared) (σ : St) (H : Hp) (o i v : V) (ov iv u : Value) (Q : Hp → Prop), Inv X pins σ H s → RelV o ov → RelV i iv → RelV v u → t o i v H Q →
    wpAny (model X.prog X.w) X.A (setItem ov iv u) (fun _ s' => ∃ H', Inv X pins σ H' s' ∧ Q H') X.xe s
/-- a op= b, by values -/
abbrev TIp := V → V → Hp → VK → Prop
def PIp (X : Cx) (op : Operator) (t : TIp) : Prop :=
  ∀ (pins : List (Addr × Obj)) (s : Shared) (σ : St) (H : Hp) (x y : V) (v u : Value) (Q : VK), Inv X pins σ H s → RelV x v → RelV y u → t x y H Q →
    wpAny (model X.prog X.w) X.A (inplaceOp op v u) (EP X pins σ Q) X.xe s
section
variable {X : Cx} {pos : Pos}
def gName (i : Nat) : TG := fun v σ H Q => Q (σ.set i (some v)) H
theorem pg_name {i : Nat} {x : Str} (hN : X.N.Nodup) (hi : X.N[i]? = some x) (hx : Loc X.env.scope x) (hf : X.fn x = true ∨ X.env.scope.names.lookup x = some .local := by first | exact .inl rfl | exact .inr rfl | assumption) : PG X (.Name x pos) (gName i) := by
  intro pins s σ H v u Q I r h
  exact wpAny_assign_Name (store_ok I hN hi hx r (fun s' I' => ⟨_, H, I', h⟩) hf)
def gNil : TGs := fun vs σ H Q => vs = [] ∧ Q σ H
def gCons (t : TG) (u : TGs) : TGs := fun vs σ H Q => ∃ v r, vs = v :: r ∧ t v σ H fun σ' H' => u r σ' H' Q
theorem pgs_nil : PGs X [] gNil := by
  intro pins s σ H vs us Q I r h
  obtain ⟨e, h⟩ := h
  subst e
  cases r
  exact assignInOrder_nil ⟨σ, H, I, h⟩
theorem pgs_cons {e : Expr} {es : List Expr} {t : TG} {u : TGs} (h1 : PG X e t) (h2 : PGs X es u)
    (hs : (assignEach (e :: es) X.env).map (·.2) = assign e X.env :: (assignEach es X.env).map (·.2) := by rfl) : PGs X (e :: es) (gCons t u) := by
  intro pins s σ H vs us Q I r h
  obtain ⟨v, vr, e1, h⟩ := h
  subst e1
  cases r with
  | cons r rr =>
    rw [hs]
    refine assignInOrder_cons (thn (h1 pins s σ H _ _ _ I r h) fun _ s1 ⟨σ1, H1, I1, q1⟩ => ?_)
    exact h2 pins s1 σ1 H1 _ _ Q I1 rr q1
/-- (a, b, ..) = a tuple of that length -/
def gTup (K : PySem.W.Frag) (n : Nat) (t : TGs) : TG := fun v σ H Q => ∃ a xs, v = .ref a ∧ SqT K H a xs ∧ xs.length = n ∧ t xs σ H Q
theorem pg_tup {es : List Expr} {k : Nat} {t : TGs} {n : Nat} (hc : X.calm = true) (h : PGs X es t)
    (hn : (assignEach es X.env).length = n := by rfl) (hst : (assignEach es X.env).findIdx? (·.1) = none := by rfl) : PG X (.Tuple es k pos) (gTup X.K n t) := by
  intro pins s σ H v u Q I r hw
  obtain ⟨a, xs, e1, hq, hl, hw⟩ := hw
  subst e1
  cases r
  obtain ⟨its, rv, ht, hz⟩ := I.tuple hq
  refine assign_Tuple_tuple (I.ok.hd hc) ht (by simp [hn, ← hl, rv.length]) hst fun h' hx => ?_
  have I1 : Inv X pins σ H { s with heap := h' } := I.kept (t' := s.toks) fun b o e => hx b o (Nat.ne_of_lt (Heap.lt_size e)) e
  exact h pins _ σ H xs _ Q I1 (by simpa using rv) hw
/-- o[i] = .. -/
def gSub (to ti : TE) (t : TSet) : TG := fun v σ H Q => to σ H fun o H1 => ti σ H1 fun i H2 => t o i v H2 fun H3 => Q σ H3
theorem pg_sub {o i : Expr} {to ti : TE} {t : TSet} (ho : PE X o to) (hi : PE X i ti) (hs : PSet X t)
    (ha : ∀ v, assign (.Subscript o i pos) X.env v = (do
      let ov ← holding [v] (eval o X.env)
      let iv ← holding [v, ov] (eval i X.env)
      standAt pos
      holding [v, ov, iv] (setItem ov iv v)
      release [v, ov, iv] []) := by intro _; rfl) : PG X (.Subscript o i pos) (gSub to ti t) := by
  intro pins s σ H v u Q I r h
  rw [ha]
  refine wpAny_bind (wpAny_holding (thn (ho pins s σ H _ I h) fun ov s1 ⟨x, H1, I1, r1, q1⟩ => ?_))
  refine wpAny_bind (wpAny_holding (thn (hi pins s1 σ H1 _ I1 q1) fun iv s2 ⟨y, H2, I2, r2, q2⟩ => ?_))
  refine wpAny_bind (wpAny_standAt (wpAny_bind (wpAny_holding (thn (hs pins s2 σ H2 x y v ov iv u _ I2 r1 r2 r q2) fun _ s3 ⟨H3, I3, q3⟩ => ?_))))
  exact wpAny_release ⟨σ, H3, I3, q3⟩
/-- target = value -/
def tAsg (te : TE) (g : TG) : TS := fun D σ H => te σ H fun x H1 => g x σ H1 D.nx
theorem ps_asg {tg e : Expr} {te : TE} {g : TG} (he : PE X e te) (hg : PG X tg g) (hs : swapsWithSole [tg] e pos.line X.env = pure false := by rfl) (hw : swappedStores [tg] e X.env = pure none := by rfl)
    (h1 : (assignEach [tg] X.env).map (·.2) = [assign tg X.env] := by rfl) : PS X (.Assign [tg] e pos) (tAsg te g) := by
  intro pins s σ H D I h
  refine wpAny_Assign_stores (thn (he pins s σ H _ I h) fun v s1 ⟨x, H1, I1, r1, q1⟩ => ?_) hs hw
  rw [h1]
  exact thn (hg pins s1 σ H1 x v _ I1 r1 q1) fun _ s2 q => q
/-- name = value -/
theorem ps_set {i : Nat} {x : Str} {e : Expr} {te : TE} {pos' : Pos} (hN : X.N.Nodup) (hi : X.N[i]? = some x) (hx : Loc X.env.scope x) (he : PE X e te) (hs : swapsWith e (some (.Name x pos')) pos.line X.env = pure false := by rfl) (hf : X.fn x = true ∨ X.env.scope.names.lookup x = some .local := by first | exact .inl rfl | exact .inr rfl | assumption) :
    PS X (.Assign [.Name x pos'] e pos) (tAsg te (gName i)) := by
  intro pins s σ H D I h
  refine wpAny_Assign_Name (thn (he pins s σ H _ I h) fun v s1 ⟨y, H1, I1, r1, q1⟩ => ?_) hs
  exact store_ok I1 hN hi hx r1 (fun s2 I2 => ⟨_, H1, I2, q1⟩) hf
/-- a, b = x, y with plain local names: stored from the right; the pair itself is not tracked (the opening rows as in PyProof/Rows/TupAssign.lean:23) -/
def tPar (i j : Nat) (ta : TA) : TS := fun D σ H => ta σ H fun vs H1 => ∃ v w, vs = [v, w] ∧ D.nx ((σ.set i (some v)).set j (some w)) H1
theorem ps_par {i j : Nat} {x y : Str} {a b : Expr} {ta : TA} {px py pt : Pos} {kt k2 pt2} (hc : X.calm = true) (hN : X.N.Nodup) (hi : X.N[i]? = some x) (hj : X.N[j]? = some y) (hij : i ≠ j)
    (hx : X.env.scope.names.lookup x = some .local) (hy : X.env.scope.names.lookup y = some .local) (ha : PA X [a, b] ta)
    (hw : swappedStores [.Tuple [.Name x px, .Name y py] kt pt] (.Tuple [a, b] k2 pt2) X.env = pure (some [x, y]))
    (hs : swapsWithSole [.Tuple [.Name x px, .Name y py] kt pt] (.Tuple [a, b] k2 pt2) pos.line X.env = pure false := by rfl) :
    PS X (.Assign [.Tuple [.Name x px, .Name y py] kt pt] (.Tuple [a, b] k2 pt2) pos) (tPar i j ta) := by
  intro pins s σ H D I h
  rw [exec_Assign_arm]
  refine wpAny_bind (wpAny_standAt ?_)
  rw [hs]
  refine wpAny_bind (wpAny_pure ?_)
  rw [if_neg (by decide)]
  refine wpAny_bind (Tuple_ (thn (ha _ pins s σ H _ I h) fun us s1 ⟨vs, H1, I1, r1, q1⟩ => ?_))
  obtain ⟨v, w, e1, q1⟩ := q1
  subst e1
  obtain ⟨u1, u2, rfl, rv, rw'⟩ : ∃ u1 u2, us = [u1, u2] ∧ RelV v u1 ∧ RelV w u2 := by
    cases r1 with
    | cons p q =>
      cases q with
      | cons p' q' =>
        cases q'
        exact ⟨_, _, rfl, p, p'⟩
  refine wpAny_newObj_type ?_ (by show 2 ≤ sizeLine; decide)
  have I2 : Inv X pins σ H1 { s1 with heap := s1.heap.push { cls := .type "tuple", data := .seq [u1, u2].toArray } } := I1.kept (t' := s1.toks) fun b o e => Heap.get?_push_of_some _ e
  rw [hw]
  refine wpAny_bind (wpAny_pure ?_)
  show wpAny (model X.prog X.w) X.A (do rule "assign.swapped-stores"; let items ← unpackItems (.ref s1.heap.objs.size) 2 none; assignInOrder [fun v => bindName X.env y v, fun v => bindName X.env x v] items.reverse; pure Flow.next) _ _ _
  refine wpAny_bind (wpAny_rule (wpAny_bind (unpackItems_tuple (items := #[u1, u2]) (I.ok.hd hc) (IsTup.new s1.heap _) fun h' hx' => ?_)))
  have I3 := I2.kept (h' := h') (t' := s1.toks) fun b o e => hx' b o (Nat.ne_of_lt (Heap.lt_size e)) e
  show wpAny _ _ (assignInOrder [fun v => bindName X.env y v, fun v => bindName X.env x v] [u2, u1] >>= fun _ => pure Flow.next) _ _ _
  refine wpAny_bind (assignInOrder_cons (wpAny_bindName (store_ok I3 hN hj (.inl hy) rw' (fun s2 I4 => ?_) (.inr hy))))
  refine assignInOrder_cons (wpAny_bindName (store_ok I4 hN hi (.inl hx) rv (fun s3 I5 => assignInOrder_nil (wpAny_pure ?_)) (.inr hx)))
  rw [List.set_comm _ _ (Ne.symm hij)] at I5
  exact ⟨_, H1, I5, q1⟩
/-- name op= e -/
def tAug (i : Nat) (te : TE) (ti : TIp) : TS := fun D σ H => ∃ x, σ[i]? = some (some x) ∧ te σ H fun y H1 => ti x y H1 fun z H2 => D.nx (σ.set i (some z)) H2
theorem ps_aug {i : Nat} {x : Str} {e : Expr} {te : TE} {op : Operator} {ti : TIp} {pos' : Pos} (hN : X.N.Nodup) (hi : X.N[i]? = some x) (hx : Loc X.env.scope x) (he : PE X e te) (ho : PIp X op ti) (hf : X.fn x = true ∨ X.env.scope.names.lookup x = some .local := by first | exact .inl rfl | exact .inr rfl | assumption) :
    PS X (.AugAssign (.Name x pos') op e pos) (tAug i te ti) := by
  intro pins s σ H D I h
  obtain ⟨v, e1, h⟩ := h
  obtain ⟨m, hn, hl⟩ := I.loc
  have vis : Vis X.env.scope x := by rcases hx with k | k; exact .inl k; exact .inr (.inl k)
  obtain ⟨u, r, l⟩ := hl i x v hi e1 vis
  refine wpAny_AugAssign_Name ?_
  have go : wpAny (model X.prog X.w) X.A (eval e X.env) (fun w s₂ => wpAny (model X.prog X.w) X.A (inplaceOp op u w) (fun r s₃ => wpAny (model X.prog X.w) X.A (storeName X.env x r) (fun _ => SP X pins D .next) X.xe s₃) X.xe s₂) X.xe s := by
    refine thn (he pins s σ H _ I h) fun w s1 ⟨y, H1, I1, r1, q1⟩ => ?_
    refine thn (ho pins s1 σ H1 v y u w _ I1 r r1 q1) fun z s2 ⟨zv, H2, I2, r2, q2⟩ => ?_
    exact store_ok I2 hN hi hx r2 (fun s3 I3 => ⟨_, H2, I3, q2⟩) hf
  rcases l with ⟨hk, hm⟩ | ⟨hk, c, hc, hcell⟩
  · exact wpAny_loadName_local I.ok.kind hk hn hm go
  · rcases hk with hk | hk
    · exact wpAny_loadName_cell I.ok.kind hk hc hcell go
    · rcases hx with k | k
      · have : X.env.scope.names.lookup x = some .free := hk
        rw [k] at this; cases this
      · have : X.env.scope.names.lookup x = some .free := hk
        rw [k] at this; cases this
/-- o[i] op= e -/
def tAugS (to ti te : TE) (tget : V → V → Hp → VK → Prop) (tip : TIp) (tset : TSet) : TS := fun D σ H => to σ H fun o H1 => ti σ H1 fun i H2 => tget o i H2 fun x H3 => te σ H3 fun y H4 => tip x y H4 fun z H5 => tset o i z H5 fun H6 => D.nx σ H6
/-- o[i], by values -/
def PGet (X : Cx) (t : V → V → Hp → VK → Prop) : Prop :=
  ∀ (pins : List (Addr × Obj)) (s : Shared) (σ : St) (H : Hp) (o i : V) (ov iv : Value) (Q : VK), Inv X pins σ H s → RelV o ov → RelV i iv → t o i H Q →
    wpAny (model X.prog X.w) X.A (getItem ov iv) (EP X pins σ Q) X.xe s
theorem ps_augS {o i e : Expr} {to ti te : TE} {tget : V → V → Hp → VK → Prop} {tip : TIp} {tset : TSet} {op : Operator} {tpos : Pos} (ho : PE X o to) (hi : PE X i ti) (hg : PGet X tget) (he : PE X e te) (hp : PIp X op tip) (hs : PSet X tset)
    (ha : ∀ ov iv new, augStore i ov iv new = (do holding [new, ov, iv] (setItem ov iv new); release [new, ov, iv] []; pure .next) := by intros; rfl) : PS X (.AugAssign (.Subscript o i tpos) op e pos) (tAugS to ti te tget tip tset) := by
  intro pins s σ H D I h
  refine wpAny_AugAssign_SubscriptAny (thn (ho pins s σ H _ I h) fun ov s1 ⟨x1, H1, I1, r1, q1⟩ => ?_) ha
  refine thn (hi pins s1 σ H1 _ I1 q1) fun iv s2 ⟨x2, H2, I2, r2, q2⟩ => ?_
  refine thn (hg pins s2 σ H2 x1 x2 ov iv _ I2 r1 r2 q2) fun old s3 ⟨x3, H3, I3, r3, q3⟩ => ?_
  refine thn (he pins s3 σ H3 _ I3 q3) fun v s4 ⟨x4, H4, I4, r4, q4⟩ => ?_
  refine thn (hp pins s4 σ H4 x3 x4 old v _ I4 r3 r4 q4) fun new s5 ⟨x5, H5, I5, r5, q5⟩ => ?_
  exact thn (hs pins s5 σ H5 x1 x2 x5 ov iv new _ I5 r1 r2 r5 q5) fun _ s6 ⟨H6, I6, q6⟩ => ⟨σ, H6, I6, q6⟩
/-- ints -/
def ipI (f : Int → Int → Int) : TIp := fun x y H Q => ∃ i j, x = .int i ∧ y = .int j ∧ Q (.int (f i j)) H
theorem ip_add : PIp X .Add (ipI fun i j => i + j) := by
  intro pins s σ H x y v u Q I r1 r2 h
  obtain ⟨i, j, e1, e2, q⟩ := h
  subst e1; subst e2
  obtain ⟨t, rfl⟩ := r1
  obtain ⟨t', rfl⟩ := r2
  exact iadd_int ⟨.int _, H, I.tok _, ⟨_, rfl⟩, q⟩
theorem ip_sub : PIp X .Sub (ipI fun i j => i - j) := by
  intro pins s σ H x y v u Q I r1 r2 h
  obtain ⟨i, j, e1, e2, q⟩ := h
  subst e1; subst e2
  obtain ⟨t, rfl⟩ := r1
  obtain ⟨t', rfl⟩ := r2
  exact isub_int ⟨.int _, H, I.tok _, ⟨_, rfl⟩, q⟩
end

/-! ### while -/
section
variable {X : Cx} {pos : Pos}
/-- the invariant W with its measure -/
def tWhile (c : TT) (tb : TS) : TS := fun D σ H => ∃ W : Nat → St → Hp → Prop, (∃ m, W m σ H) ∧ ∀ m σ H, W m σ H →
  c σ H fun b H1 => if b = true then ∃ N : St → Hp → Prop, (∀ σ' H', N σ' H' → ∃ m', m' < m ∧ W m' σ' H') ∧ tb { D with nx := N, ct := N, bk := D.nx } σ H1 else D.nx σ H1
theorem ps_while {c : Expr} {body : List Stmt} {tc : TT} {tb : TS} (hp : PassesOwn (model X.prog X.w) X.A X.env X.xe) (hc : PT X c tc) (hb : PSs X body tb) : PS X (.While c body [] pos) (tWhile tc tb) := by
  intro pins s σ H D I h
  obtain ⟨W, ⟨m0, w0⟩, turn⟩ := h
  refine wpAny_While (codeAny_whileLoop (fun n s' => ∃ σ' H', Inv X pins σ' H' s' ∧ W n σ' H') ?_ m0 ⟨σ, H, I, w0⟩)
  rintro n s1 ⟨σ1, H1, I1, w1⟩
  refine wpAny_passesOwn hp (thn (hc pins s1 σ1 H1 _ I1 (turn n σ1 H1 w1)) fun b s2 ⟨H2, I2, q2⟩ => ?_)
  cases b with
  | true =>
    obtain ⟨N, hN, q2⟩ := q2
    rw [if_pos rfl]
    refine wpAny_passesOwn hp (thn (hb pins s2 σ1 H2 _ I2 q2) fun f s3 q3 => ?_)
    cases f with
    | next =>
      obtain ⟨σ3, H3, I3, n3⟩ := q3
      obtain ⟨m', hm, w3⟩ := hN σ3 H3 n3
      exact ⟨m', hm, σ3, H3, I3, w3⟩
    | cont =>
      obtain ⟨σ3, H3, I3, n3⟩ := q3
      obtain ⟨m', hm, w3⟩ := hN σ3 H3 n3
      exact ⟨m', hm, σ3, H3, I3, w3⟩
    | brk => exact q3
    | ret v => exact q3
  | false =>
    rw [if_neg Bool.false_ne_true]
    exact wpAny_execs_nil ⟨σ1, H2, I2, q2⟩
end

/-! ### what a loop or a comprehension walks -/
/-- at turn i: it yields x (the heap may grow), or it stops -/
structure It where
  go : Nat → Hp → Prop
  yld : Nat → Hp → V → Hp → Prop
  stop : Nat → Hp → Prop
/-- the iterator's own objects may turn: they are not the frame's, not pinned, younger than the entry (or a comprehension's own) -/
def FpOk (X : Cx) (pins : List (Addr × Obj)) (H : Hp) (b : Addr) : Prop :=
  H b = none ∧ b ≠ X.env.locals ∧ b ∉ X.fs ∧ (b ∈ X.ex ∨ X.s₀.heap.objs.size ≤ b) ∧ (∀ x c, X.env.cells.lookup x = some c → c ≠ b) ∧ ∀ p ∈ X.pn ++ pins, p.1 ≠ b
theorem Inv.fpOk {X : Cx} {pins : List (Addr × Obj)} {σ : St} {H H' : Hp} {s : Shared} {b : Addr} (I : Inv X pins σ H s) (hb : s.heap.objs.size ≤ b) (hn : H' b = none) : FpOk X pins H' b := by
  refine ⟨hn, Nat.ne_of_gt (Nat.lt_of_lt_of_le I.lt hb), I.nofs hb, .inr (Nat.le_trans I.sz hb), fun x c e z => ?_, fun p hp z => ?_⟩
  · obtain ⟨v, q⟩ := I.cell x c e
    exact absurd (Nat.lt_of_lt_of_le q.lt (by rw [z]; exact hb)) (Nat.lt_irrefl _)
  · exact absurd (Nat.lt_of_lt_of_le (Heap.lt_size (I.pin p hp).1) (by rw [z]; exact hb)) (Nat.lt_irrefl _)
structure Turn (P : Program) (w : World) (K : PySem.W.Frag) (tg : Expr) (J : It) (fp : List Addr) (it : Addr) (tn : Nat → Heap → Prop) : Prop where
  mem : it ∈ fp
  obj : ∀ i h, tn i h → ∀ b ∈ fp, ∃ o, h.get? b = some o ∧ ∀ v, o.data ≠ .cell v
  keep : ∀ i h h', tn i h → (∀ b ∈ fp, ∀ o, h.get? b = some o → h'.get? b = some o) → tn i h'
  item : ∀ (X : Cx), X.prog = P → X.w = w → X.K = K → X.calm = true → ∀ (i : Nat) (pins : List (Addr × Obj)) (s : Shared) (σ : St) (H : Hp) (E : Value → Shared → Prop), Inv X pins σ H s → (∀ b ∈ fp, FpOk X pins H b) → tn i s.heap → J.go i H →
    wpAny (model P w) X.A (pyNext (.ref it)) (fun r s1 => ∃ u, r = some u ∧
      wpAny (model P w) X.A (letOwnedTupleGo tg (.ref it) u) (fun _ s2 => ∃ x H', Inv X pins σ H' s2 ∧ RelV x u ∧ J.yld i H x H' ∧ tn (i + 1) s2.heap ∧ ∀ b ∈ fp, H' b = none) E s1) E s
  done : ∀ (X : Cx), X.prog = P → X.w = w → X.K = K → X.calm = true → ∀ (i : Nat) (pins : List (Addr × Obj)) (s : Shared) (σ : St) (H : Hp) (E : Value → Shared → Prop), Inv X pins σ H s → (∀ b ∈ fp, FpOk X pins H b) → tn i s.heap → J.stop i H →
    wpAny (model P w) X.A (pyNext (.ref it)) (fun r s1 => r = none ∧ Inv X pins σ H s1) E s
  self : ∀ (A : Around) (i : Nat) (s : Shared) (Q : Value → Shared → Prop) (E : Value → Shared → Prop), tn i s.heap → Q (.ref it) s → wpAny (model P w) A (pyIter (.ref it)) Q E s
abbrev TI := St → Hp → (It → Hp → Prop) → Prop
/-- an iterator has come -/
def PIE (X : Cx) (pins : List (Addr × Obj)) (σ : St) (tg : Expr) (R : It → Hp → Prop) (itv : Value) (s2 : Shared) : Prop :=
  ∃ (it : Addr) (fp : List Addr) (tn : Nat → Heap → Prop) (J : It) (H' : Hp), itv = .ref it ∧ Inv X pins σ H' s2 ∧ Turn X.prog X.w X.K tg J fp it tn ∧ tn 0 s2.heap ∧ (∀ b ∈ fp, FpOk X pins H' b) ∧ R J H'
def PI (X : Cx) (tg iter : Expr) (wi : TI) : Prop :=
  ∀ (pins : List (Addr × Obj)) (s : Shared) (σ : St) (H : Hp) (R : It → Hp → Prop), Inv X pins σ H s → wi σ H R →
    wpAny (model X.prog X.w) X.A (eval iter X.env) (fun v s1 => wpAny (model X.prog X.w) X.A (pyIter v) (PIE X pins σ tg R) X.xe s1) X.xe s

/-- the step ahead of the store is nothing for an iterator that keeps no tuple -/
theorem go_of {M : Model} {A : Around} {E : Value → Shared → Prop} {s : Shared} {tg : Expr} {it : Addr} {u : Value} {o : Obj} {n : String} {vs : Array Value} {Q : Unit → Shared → Prop} (ho : s.heap.get? it = some o) (hc : o.cls = .type n) (hd : o.data = .fields vs)
    (hn : ["enumerate", "zip", "dict_itemiterator", "dict_reverseitemiterator", "odict_iterator", "itertools.zip_longest", "itertools.pairwise"].contains n = false) (hQ : Q () s) : wpAny M A (letOwnedTupleGo tg (.ref it) u) Q E s := by
  unfold letOwnedTupleGo
  cases tg <;> first
    | exact wpAny_pure hQ
    | (cases u <;> first
        | exact wpAny_pure hQ
        | (refine wpAny_bind (wpAny_load ho ?_)
           rw [hc, hd]
           show wpAny M A (if (["enumerate", "zip", "dict_itemiterator", "dict_reverseitemiterator", "odict_iterator", "itertools.zip_longest", "itertools.pairwise"].contains n && vs[0]? == some (rawInt _)) = true then _ else _) Q E s
           rw [if_neg (by intro h; rw [hn, Bool.false_and] at h; cases h)]
           exact wpAny_pure hQ))

/-- the list at a, as it stands at each turn (a loop may append to it) -/
def Itl (K : PySem.W.Frag) (a : Addr) : It :=
  ⟨fun i H => ∃ xs x, SqL K H a xs ∧ xs[i]? = some x, fun i H x H' => H' = H ∧ ∀ xs, SqL K H a xs → xs[i]? = some x, fun i H => ∃ xs, SqL K H a xs ∧ xs.length ≤ i⟩
def Itt (K : PySem.W.Frag) (a : Addr) : It :=
  ⟨fun i H => ∃ xs x, SqT K H a xs ∧ xs[i]? = some x, fun i H x H' => H' = H ∧ ∀ xs, SqT K H a xs → xs[i]? = some x, fun i H => ∃ xs, SqT K H a xs ∧ xs.length ≤ i⟩
/-- lo, lo + 1, .. (n of them) -/
def Itr (lo : Int) (n : Nat) : It := ⟨fun i _ => i < n, fun i H x H' => H' = H ∧ x = .int (lo + i), fun i _ => n ≤ i⟩
theorem turn_list {P : Program} {w : World} {K : PySem.W.Frag} {tg : Expr} (a it : Addr) : Turn P w K tg (Itl K a) [it] it (fun i h => h.IsListIter it a i) where
  mem := by simp
  obj := fun i h st b hb => by
    have e : b = it := by simpa using hb
    subst e
    obtain ⟨o, e, c, d⟩ := st
    exact ⟨o, e, fun v z => by rw [d] at z; cases z⟩
  keep := fun i h h' st k => st.at fun o e => k it (by simp) o e
  item := by
    intro X hP hw hK hc i pins s σ H E I hf st hg
    subst hP hw hK
    obtain ⟨xs, x, hq, hx⟩ := hg
    obtain ⟨its, rv, p, hz⟩ := I.list hq
    obtain ⟨u, hu, ru⟩ := rv.get hx
    obtain ⟨f0, f1, f2, f3, f4, f5⟩ := hf it (by simp)
    refine wpAny_pyNext_list_item st p.isList (x := u) (by simpa using hu) fun h' st' sb => ?_
    have I1 : Inv X pins σ H { s with heap := h' } := I.turned (t' := s.toks) (fun b o hb e => (sb.2 b hb).trans e) f0 f1 f3 f4 f5
    obtain ⟨o, e, c, d⟩ := id st'
    exact ⟨u, rfl, go_of (s := { s with heap := h' }) e c d (by decide) ⟨x, H, I1, ru, ⟨rfl, fun ys hy => by rw [I.list_inj hy hq]; exact hx⟩, st', fun b hb => (hf b hb).1⟩⟩
  done := by
    intro X hP hw hK hc i pins s σ H E I hf st hg
    subst hP hw hK
    obtain ⟨xs, hq, hx⟩ := hg
    obtain ⟨its, rv, p, hz⟩ := I.list hq
    obtain ⟨f0, f1, f2, f3, f4, f5⟩ := hf it (by simp)
    have hl := rv.length
    exact wpAny_pyNext_list_end (I.ok.hd hc) st p.isList (by simp; omega) fun h' eb => ⟨rfl, I.turned (t' := s.toks) (fun b o hb e => eb b o hb e) f0 f1 f3 f4 f5⟩
  self := fun _ _ _ _ _ st h => wpAny_pyIter_listiter st h
theorem turn_tuple {P : Program} {w : World} {K : PySem.W.Frag} {tg : Expr} (a it : Addr) : Turn P w K tg (Itt K a) [it] it (fun i h => h.IsTupleIter it a i) where
  mem := by simp
  obj := fun i h st b hb => by
    have e : b = it := by simpa using hb
    subst e
    obtain ⟨o, e, c, d⟩ := st
    exact ⟨o, e, fun v z => by rw [d] at z; cases z⟩
  keep := fun i h h' st k => st.at fun o e => k it (by simp) o e
  item := by
    intro X hP hw hK hc i pins s σ H E I hf st hg
    subst hP hw hK
    obtain ⟨xs, x, hq, hx⟩ := hg
    obtain ⟨its, rv, p, hz⟩ := I.tuple hq
    obtain ⟨u, hu, ru⟩ := rv.get hx
    obtain ⟨f0, f1, f2, f3, f4, f5⟩ := hf it (by simp)
    refine wpAny_pyNext_tuple_item st (show s.heap.IsTuple a its.toArray from p) (x := u) (by simpa using hu) fun h' st' sb => ?_
    have I1 : Inv X pins σ H { s with heap := h' } := I.turned (t' := s.toks) (fun b o hb e => (sb.2 b hb).trans e) f0 f1 f3 f4 f5
    obtain ⟨o, e, c, d⟩ := id st'
    exact ⟨u, rfl, go_of (s := { s with heap := h' }) e c d (by decide) ⟨x, H, I1, ru, ⟨rfl, fun ys hy => by rw [I.tuple_inj hy hq]; exact hx⟩, st', fun b hb => (hf b hb).1⟩⟩
  done := by
    intro X hP hw hK hc i pins s σ H E I hf st hg
    subst hP hw hK
    obtain ⟨xs, hq, hx⟩ := hg
    obtain ⟨its, rv, p, hz⟩ := I.tuple hq
    obtain ⟨f0, f1, f2, f3, f4, f5⟩ := hf it (by simp)
    have hl := rv.length
    exact wpAny_pyNext_tuple_end (I.ok.hd hc) st (show s.heap.IsTuple a its.toArray from p) (by simp; omega) fun h' eb => ⟨rfl, I.turned (t' := s.toks) (fun b o hb e => eb b o hb e) f0 f1 f3 f4 f5⟩
  self := fun _ _ _ _ _ st h => wpAny_pyIter_tupleiter st h
theorem turn_range {P : Program} {w : World} {K : PySem.W.Frag} {tg : Expr} (it : Addr) (lo : Int) (n : Nat) : Turn P w K tg (Itr lo n) [it] it (fun i h => IsRangeIter h it (lo + (i : Nat) * 1) ((n : Int) - (i : Nat)) 1) where
  mem := by simp
  obj := fun i h st b hb => by
    have e : b = it := by simpa using hb
    subst e
    exact ⟨_, st, fun v z => by
      have z' : Data.fields _ = Data.cell v := z
      cases z'⟩
  keep := fun i h h' st k => k it (by simp) _ st
  item := by
    intro X hP hw hK hc i pins s σ H E I hf st hg
    subst hP hw hK
    obtain ⟨f0, f1, f2, f3, f4, f5⟩ := hf it (by simp)
    have W := Walks.range (prog := X.prog) (w := X.w) (I.ok.hd hc) it lo 1 n
    refine W.item i s _ _ hg st fun v h' tk hv st' kk => ?_
    obtain ⟨t, rfl⟩ := hv
    have I1 : Inv X pins σ H { s with heap := h', toks := tk } := I.turned (fun b o hb e => kk b o (by simpa using hb) e) f0 f1 f3 f4 f5
    refine ⟨_, rfl, go_of (s := { s with heap := h', toks := tk }) (n := "range_iterator") st' rfl rfl (by decide) ⟨.int (lo + i), H, I1, ⟨t, ?_⟩, ⟨rfl, rfl⟩, st', fun b hb => (hf b hb).1⟩⟩
    rw [Int.mul_one]
  done := by
    intro X hP hw hK hc i pins s σ H E I hf st hg
    subst hP hw hK
    obtain ⟨f0, f1, f2, f3, f4, f5⟩ := hf it (by simp)
    exact wpAny_pyNext_range_end (I.ok.hd hc) st (by have : n ≤ i := hg; omega) fun h' eb => ⟨rfl, I.turned (t' := s.toks) (fun b o hb e => eb b o hb e) f0 f1 f3 f4 f5⟩
  self := fun _ _ _ _ _ st h => wpAny_pyIter_rangeiter st h
end L2

namespace L2
open PySem PySem.Spec PyProof.Rows
section
variable {X : Cx} {tg : Expr}
def iList (K : PySem.W.Frag) (tl : TE) : TI := fun σ H R => tl σ H fun x H1 => ∃ a, x = .ref a ∧ (∃ xs, SqL K H1 a xs) ∧ R (Itl K a) H1
def iTup (K : PySem.W.Frag) (tl : TE) : TI := fun σ H R => tl σ H fun x H1 => ∃ a, x = .ref a ∧ (∃ xs, SqT K H1 a xs) ∧ R (Itt K a) H1
theorem pi_list {l : Expr} {tl : TE} (hl : PE X l tl) : PI X tg l (iList X.K tl) := by
  intro pins s σ H R I h
  refine thn (hl pins s σ H _ I h) fun v s1 ⟨x, H1, I1, r1, q1⟩ => ?_
  obtain ⟨a, e, ⟨xs, hq⟩, q⟩ := q1
  subst e
  cases r1
  obtain ⟨its, rv, p, hz⟩ := I1.list hq
  refine wpAny_pyIter_list p.isList ?_
  refine ⟨s1.heap.objs.size, [s1.heap.objs.size], _, _, H1, rfl, I1.kept (t' := s1.toks) fun b o e => Heap.get?_push_of_some _ e, turn_list a _, ⟨_, Heap.get?_push_size _ rfl, rfl, rfl⟩, fun b hb => ?_, q⟩
  have e : b = s1.heap.objs.size := by simpa using hb
  subst e
  exact I1.fpOk (Nat.le_refl _) (I1.hok.fresh (Nat.le_refl _))
theorem pi_tup {l : Expr} {tl : TE} (hl : PE X l tl) : PI X tg l (iTup X.K tl) := by
  intro pins s σ H R I h
  refine thn (hl pins s σ H _ I h) fun v s1 ⟨x, H1, I1, r1, q1⟩ => ?_
  obtain ⟨a, e, ⟨xs, hq⟩, q⟩ := q1
  subst e
  cases r1
  obtain ⟨its, rv, p, hz⟩ := I1.tuple hq
  refine wpAny_pyIter_tuple (show s1.heap.IsTuple a its.toArray from p) ?_
  refine ⟨s1.heap.objs.size, [s1.heap.objs.size], _, _, H1, rfl, I1.kept (t' := s1.toks) fun b o e => Heap.get?_push_of_some _ e, turn_tuple a _, ⟨_, Heap.get?_push_size _ rfl, rfl, rfl⟩, fun b hb => ?_, q⟩
  have e : b = s1.heap.objs.size := by simpa using hb
  subst e
  exact I1.fpOk (Nat.le_refl _) (I1.hok.fresh (Nat.le_refl _))
/-- a range object just made, walked -/
theorem range_it {pins : List (Addr × Obj)} {σ : St} {H : Hp} {s : Shared} {R : It → Hp → Prop} {E : Value → Shared → Prop} {lo hi : Int} {t u v : Tok} {tk : Nat} (I : Inv X pins σ H s) (h1 : -(2 ^ 62) ≤ lo) (h2 : lo < 2 ^ 62) (h3 : -(2 ^ 62) ≤ hi) (h4 : hi < 2 ^ 62)
    (q : R (Itr lo (hi - lo).toNat) H) : wpAny (model X.prog X.w) X.A (pyIter (.ref s.heap.objs.size)) (PIE X pins σ tg R) E { s with heap := s.heap.push { cls := .type "range", data := .fields #[.int lo t, .int hi u, .int 1 v] }, toks := tk } := by
  refine wpAny_pyIter_range (IsRange.new ..) (small_one h1 h2 h3 h4) ?_
  have I1 : Inv X pins σ H { s with heap := s.heap.push { cls := .type "range", data := .fields #[.int lo t, .int hi u, .int 1 v] }, toks := tk } := I.kept fun b o e => Heap.get?_push_of_some _ e
  refine ⟨(s.heap.push { cls := .type "range", data := .fields #[.int lo t, .int hi u, .int 1 v] }).objs.size, [(s.heap.push { cls := .type "range", data := .fields #[.int lo t, .int hi u, .int 1 v] }).objs.size], _, _, H, rfl,
    I1.kept (t' := tk) fun b o e => Heap.get?_push_of_some _ e, turn_range _ lo (hi - lo).toNat, ?_, fun b hb => ?_, q⟩
  · have e1 : lo + ((0 : Nat) : Int) * 1 = lo := by simp
    have e2 : (((hi - lo).toNat : Nat) : Int) - ((0 : Nat) : Int) = Builtin.Range.rangeSize lo hi 1 := by rw [rangeSize_one]; split <;> omega
    show IsRangeIter _ _ (lo + ((0 : Nat) : Int) * 1) ((((hi - lo).toNat : Nat) : Int) - ((0 : Nat) : Int)) 1
    rw [e1, e2]
    exact Heap.get?_push_size _ rfl
  · have e : b = (s.heap.push { cls := .type "range", data := .fields #[.int lo t, .int hi u, .int 1 v] }).objs.size := by simpa using hb
    subst e
    exact I1.fpOk (Nat.le_refl _) (I1.hok.fresh (Nat.le_refl _))
def iRng1 (ta : TA) : TI := fun σ H R => ta σ H fun vs H1 => ∃ j : Int, vs = [.int j] ∧ -(2 ^ 62) ≤ j ∧ j < 2 ^ 62 ∧ R (Itr 0 j.toNat) H1
def iRng2 (ta : TA) : TI := fun σ H R => ta σ H fun vs H1 => ∃ i j : Int, vs = [.int i, .int j] ∧ (-(2 ^ 62) ≤ i ∧ i < 2 ^ 62 ∧ -(2 ^ 62) ≤ j ∧ j < 2 ^ 62) ∧ R (Itr i (j - i).toNat) H1
theorem pi_range1 {a : Expr} {ta : TA} {p pos : Pos} (hg : Gl X "range") (hm : X.mg "range" = none) (ha : PA X [a] ta) (hs : starEach [a] X.env = [(false, eval a X.env)] := by rfl) : PI X tg (.Call (.Name "range" p) [a] [] pos) (iRng1 ta) := by
  intro pins s σ H R I h
  refine Call_ (ld_blt I hg hm boot_range (PyProof.Rows.callWith_type1 (thn (ha pos pins s σ H _ I h) fun us s1 ⟨vs, H1, I1, r1, q1⟩ => ?_) hs rfl))
  obtain ⟨j, e, q1, q2, q⟩ := q1
  subst e
  cases r1 with
  | cons r rr =>
    cases rr
    obtain ⟨t, rfl⟩ := r
    exact call_range_1 (range_it I1 (by omega) (by omega) q1 q2 (by simpa using q))
theorem pi_range2 {a b : Expr} {ta : TA} {p pos : Pos} (hg : Gl X "range") (hm : X.mg "range" = none) (ha : PA X [a, b] ta) (hs : starEach [a, b] X.env = [(false, eval a X.env), (false, eval b X.env)] := by rfl) (hs2 : starEach [b] X.env = [(false, eval b X.env)] := by rfl) :
    PI X tg (.Call (.Name "range" p) [a, b] [] pos) (iRng2 ta) := by
  intro pins s σ H R I h
  refine Call_ (ld_blt I hg hm boot_range (PyProof.Rows.callWith_type1 (thn (ha pos pins s σ H _ I h) fun us s1 ⟨vs, H1, I1, r1, q1⟩ => ?_) (by rw [hs, hs2]) (by rw [hs2]; rfl)))
  obtain ⟨i, j, e, ⟨q1, q2, q3, q4⟩, q⟩ := q1
  subst e
  cases r1 with
  | cons r rr =>
    cases rr with
    | cons r' rr =>
      cases rr
      obtain ⟨t, rfl⟩ := r
      obtain ⟨t', rfl⟩ := r'
      exact call_range_2 (range_it I1 q1 q2 q3 q4 q)

/-! ### for -/
/-- W: the invariant by the turn and a measure; N: what the body is to reach -/
def tFor (wi : TI) (g : TG) (tb : TS) : TS := fun D σ H => wi σ H fun J H1 => ∃ W : Nat → Nat → St → Hp → Prop, (∃ m, W 0 m σ H1) ∧ ∀ i m σ H, W i m σ H →
  (J.stop i H ∧ D.nx σ H) ∨ (J.go i H ∧ ∃ N : St → Hp → Prop, (∀ σ' H', N σ' H' → ∃ m', m' < m ∧ W (i + 1) m' σ' H') ∧ ∀ x H', J.yld i H x H' → g x σ H' fun σ2 H2 => tb { D with nx := N, ct := N, bk := D.nx } σ2 H2)
/-- the records at fp as they stand -/
def pinsAt (fp : List Addr) (h : Heap) : List (Addr × Obj) := fp.filterMap fun b => (h.get? b).map fun o => (b, o)
theorem mem_pinsAt {fp : List Addr} {h : Heap} {b : Addr} {o : Obj} (hb : b ∈ fp) (e : h.get? b = some o) : (b, o) ∈ pinsAt fp h := List.mem_filterMap.mpr ⟨b, hb, by rw [e]; rfl⟩
theorem of_pinsAt {fp : List Addr} {h : Heap} {p : Addr × Obj} (hp : p ∈ pinsAt fp h) : p.1 ∈ fp ∧ h.get? p.1 = some p.2 := by
  obtain ⟨b, hb, e⟩ := List.mem_filterMap.mp hp
  cases q : h.get? b with
  | none => rw [q] at e; cases e
  | some o =>
    rw [q] at e
    have e' : (b, o) = p := Option.some.inj e
    subst e'
    exact ⟨hb, q⟩
theorem Inv.pinned {pins : List (Addr × Obj)} {σ : St} {H : Hp} {s : Shared} {fp : List Addr} (I : Inv X pins σ H s) (hf : ∀ b ∈ fp, FpOk X pins H b) (ho : ∀ b ∈ fp, ∃ o, s.heap.get? b = some o ∧ ∀ v, o.data ≠ .cell v) : Inv X (pins ++ pinsAt fp s.heap) σ H s :=
  I.pins_of fun p hp => (List.mem_append.mp hp).elim (fun z => I.pin p (List.mem_append_right _ z)) fun z => by
    obtain ⟨hb, e⟩ := of_pinsAt z
    obtain ⟨f0, f1, f2, _⟩ := hf p.1 hb
    obtain ⟨o, e', d⟩ := ho p.1 hb
    rw [e] at e'; cases e'
    exact ⟨e, f0, f1, f2, d⟩
theorem Inv.unpinned {pins pl : List (Addr × Obj)} {σ : St} {H : Hp} {s : Shared} (I : Inv X (pins ++ pl) σ H s) : Inv X pins σ H s := I.pins_of fun p hp => I.pin p (List.mem_append_right _ (List.mem_append_left _ hp))
theorem ps_for {iter : Expr} {body : List Stmt} {wi : TI} {g : TG} {tb : TS} {pos : Pos} (hp : PassesOwn (model X.prog X.w) X.A X.env X.xe) (hc : X.calm = true) (hi : PI X tg iter wi) (hg : PG X tg g) (hb : PSs X body tb)
    (hs : ∀ x, foldedSetIterable iter X.env x = pure x := by intro _; rfl) : PS X (.For tg iter body [] pos) (tFor wi g tb) := by
  intro pins s σ H D I h
  refine wpAny_For (thn (hi pins s σ H _ I h) fun v s1 h1 => thn h1 fun itv s2 h2 => ?_) hs
  obtain ⟨it, fp, tn, J, H2, e, I2, T, st2, f2, W, ⟨m0, w0⟩, turn⟩ := h2
  subst e
  -- what stays true of the iterator's objects through the loop
  have stat : ∀ {H' : Hp}, (∀ b ∈ fp, H' b = none) → ∀ b ∈ fp, FpOk X pins H' b := fun hn b hb => ⟨hn b hb, (f2 b hb).2⟩
  refine codeAny_forLoop_any (fun n s' => ∃ i σ' H', Inv X pins σ' H' s' ∧ tn i s'.heap ∧ (∀ b ∈ fp, H' b = none) ∧ W i n σ' H') ?_ m0 ⟨0, σ, H2, I2, st2, fun b hb => (f2 b hb).1, w0⟩
  rintro n s3 ⟨i, σ3, H3, I3, st3, fr3, w3⟩
  rcases turn i n σ3 H3 w3 with ⟨stop, qn⟩ | ⟨go, N, hN, step⟩
  · refine wpAny_passesOwn hp (thn (T.done X rfl rfl rfl hc i pins s3 σ3 H3 X.xe I3 (stat fr3) st3 stop) fun r s4 ⟨hr, I4⟩ => ?_)
    subst hr
    exact wpAny_execs_nil ⟨σ3, H3, I4, qn⟩
  · refine wpAny_passesOwn hp (thn (T.item X rfl rfl rfl hc i pins s3 σ3 H3 X.xe I3 (stat fr3) st3 go) fun r s4 ⟨u, hr, h4⟩ => ?_)
    subst hr
    refine wpAny_passesOwn hp (thn h4 fun _ s5 ⟨x, H5, I5, r5, y5, st5, fr5⟩ => ?_)
    have I5' := I5.pinned (stat fr5) (T.obj _ _ st5)
    refine wpAny_passesOwn hp (thn (hg _ s5 σ3 H5 x u _ I5' r5 (step x H5 y5)) fun _ s6 ⟨σ6, H6, I6, q6⟩ => ?_)
    refine wpAny_passesOwn hp (thn (hb _ s6 σ6 H6 _ I6 q6) fun f s7 q7 => ?_)
    have again : ∀ {σ7 : St} {H7 : Hp}, Inv X (pins ++ pinsAt fp s5.heap) σ7 H7 s7 → N σ7 H7 → ∃ m, m < n ∧ ∃ i σ' H', Inv X pins σ' H' s7 ∧ tn i s7.heap ∧ (∀ b ∈ fp, H' b = none) ∧ W i m σ' H' := fun {σ7 H7} I7 n7 => by
      obtain ⟨m', hm, w7⟩ := hN σ7 H7 n7
      refine ⟨m', hm, i + 1, σ7, H7, I7.unpinned, T.keep _ _ _ st5 fun b hb o e => (I7.pin (b, o) (List.mem_append_right _ (List.mem_append_right _ (mem_pinsAt hb e)))).1, fun b hb => ?_, w7⟩
      obtain ⟨o, e, d⟩ := T.obj _ _ st5 b hb
      exact (I7.pin (b, o) (List.mem_append_right _ (List.mem_append_right _ (mem_pinsAt hb e)))).2.1
    cases f with
    | next => obtain ⟨σ7, H7, I7, n7⟩ := q7; exact again I7 n7
    | cont => obtain ⟨σ7, H7, I7, n7⟩ := q7; exact again I7 n7
    | brk => obtain ⟨σ7, H7, I7, q7⟩ := q7; exact ⟨σ7, H7, I7.unpinned, q7⟩
    | ret v => obtain ⟨x7, σ7, H7, I7, r7, q7⟩ := q7; exact ⟨x7, σ7, H7, I7.unpinned, r7, q7⟩
end

/-! ### the forms one uses -/
/-- over a list that the body leaves as it is -/
theorem for_list {K : PySem.W.Frag} {a : Addr} {xs : List V} {g : TG} {tb : TS} {D : Ends} {σ : St} {H : Hp} (Pv : Nat → St → Hp → Prop) (h0 : Pv 0 σ H) (hl : ∀ i σ H, i ≤ xs.length → Pv i σ H → SqL K H a xs)
    (hs : ∀ i x σ H, xs[i]? = some x → Pv i σ H → g x σ H fun σ2 H2 => tb { D with nx := Pv (i + 1), ct := Pv (i + 1), bk := D.nx } σ2 H2) (hd : ∀ σ H, Pv xs.length σ H → D.nx σ H) :
    ∃ W : Nat → Nat → St → Hp → Prop, (∃ m, W 0 m σ H) ∧ ∀ i m σ H, W i m σ H →
      ((Itl K a).stop i H ∧ D.nx σ H) ∨ ((Itl K a).go i H ∧ ∃ N : St → Hp → Prop, (∀ σ' H', N σ' H' → ∃ m', m' < m ∧ W (i + 1) m' σ' H') ∧ ∀ x H', (Itl K a).yld i H x H' → g x σ H' fun σ2 H2 => tb { D with nx := N, ct := N, bk := D.nx } σ2 H2) := by
  refine ⟨fun i m σ H => m = xs.length - i ∧ i ≤ xs.length ∧ Pv i σ H, ⟨xs.length, by simp, Nat.zero_le _, h0⟩, ?_⟩
  rintro i m σ H ⟨rfl, hi, p⟩
  have q := hl i σ H hi p
  by_cases hlt : i < xs.length
  · refine .inr ⟨⟨xs, xs[i], q, by simp [hlt]⟩, Pv (i + 1), fun σ' H' p' => ⟨xs.length - (i + 1), by omega, rfl, hlt, p'⟩, fun x H' y => ?_⟩
    obtain ⟨e, y⟩ := y
    subst e
    exact hs i x σ _ (y xs q) p
  · have e : i = xs.length := by omega
    subst e
    exact .inl ⟨⟨xs, q, Nat.le_refl _⟩, hd σ H p⟩
theorem for_tup {K : PySem.W.Frag} {a : Addr} {xs : List V} {g : TG} {tb : TS} {D : Ends} {σ : St} {H : Hp} (Pv : Nat → St → Hp → Prop) (h0 : Pv 0 σ H) (hl : ∀ i σ H, i ≤ xs.length → Pv i σ H → SqT K H a xs)
    (hs : ∀ i x σ H, xs[i]? = some x → Pv i σ H → g x σ H fun σ2 H2 => tb { D with nx := Pv (i + 1), ct := Pv (i + 1), bk := D.nx } σ2 H2) (hd : ∀ σ H, Pv xs.length σ H → D.nx σ H) :
    ∃ W : Nat → Nat → St → Hp → Prop, (∃ m, W 0 m σ H) ∧ ∀ i m σ H, W i m σ H →
      ((Itt K a).stop i H ∧ D.nx σ H) ∨ ((Itt K a).go i H ∧ ∃ N : St → Hp → Prop, (∀ σ' H', N σ' H' → ∃ m', m' < m ∧ W (i + 1) m' σ' H') ∧ ∀ x H', (Itt K a).yld i H x H' → g x σ H' fun σ2 H2 => tb { D with nx := N, ct := N, bk := D.nx } σ2 H2) := by
  refine ⟨fun i m σ H => m = xs.length - i ∧ i ≤ xs.length ∧ Pv i σ H, ⟨xs.length, by simp, Nat.zero_le _, h0⟩, ?_⟩
  rintro i m σ H ⟨rfl, hi, p⟩
  have q := hl i σ H hi p
  by_cases hlt : i < xs.length
  · refine .inr ⟨⟨xs, xs[i], q, by simp [hlt]⟩, Pv (i + 1), fun σ' H' p' => ⟨xs.length - (i + 1), by omega, rfl, hlt, p'⟩, fun x H' y => ?_⟩
    obtain ⟨e, y⟩ := y
    subst e
    exact hs i x σ _ (y xs q) p
  · have e : i = xs.length := by omega
    subst e
    exact .inl ⟨⟨xs, q, Nat.le_refl _⟩, hd σ H p⟩
theorem for_range {lo : Int} {n : Nat} {g : TG} {tb : TS} {D : Ends} {σ : St} {H : Hp} (Pv : Nat → St → Hp → Prop) (h0 : Pv 0 σ H)
    (hs : ∀ i σ H, i < n → Pv i σ H → g (.int (lo + i)) σ H fun σ2 H2 => tb { D with nx := Pv (i + 1), ct := Pv (i + 1), bk := D.nx } σ2 H2) (hd : ∀ σ H, Pv n σ H → D.nx σ H) :
    ∃ W : Nat → Nat → St → Hp → Prop, (∃ m, W 0 m σ H) ∧ ∀ i m σ H, W i m σ H →
      ((Itr lo n).stop i H ∧ D.nx σ H) ∨ ((Itr lo n).go i H ∧ ∃ N : St → Hp → Prop, (∀ σ' H', N σ' H' → ∃ m', m' < m ∧ W (i + 1) m' σ' H') ∧ ∀ x H', (Itr lo n).yld i H x H' → g x σ H' fun σ2 H2 => tb { D with nx := N, ct := N, bk := D.nx } σ2 H2) := by
  refine ⟨fun i m σ H => m = n - i ∧ i ≤ n ∧ Pv i σ H, ⟨n, by simp, Nat.zero_le _, h0⟩, ?_⟩
  rintro i m σ H ⟨rfl, hi, p⟩
  by_cases hlt : i < n
  · refine .inr ⟨hlt, Pv (i + 1), fun σ' H' p' => ⟨n - (i + 1), by omega, rfl, hlt, p'⟩, fun x H' y => ?_⟩
    obtain ⟨e, y⟩ := y
    subst e y
    exact hs i σ _ hlt p
  · have e : i = n := by omega
    subst e
    exact .inl ⟨Nat.le_refl _, hd σ H p⟩
/-- while, by a word and a measure of the state -/
theorem while_by {c : TT} {tb : TS} {D : Ends} {σ : St} {H : Hp} (Pv : St → Hp → Prop) (μ : St → Hp → Nat) (h0 : Pv σ H)
    (hs : ∀ σ H, Pv σ H → c σ H fun b H1 => if b = true then tb { D with nx := fun σ' H' => Pv σ' H' ∧ μ σ' H' < μ σ H, ct := fun σ' H' => Pv σ' H' ∧ μ σ' H' < μ σ H, bk := D.nx } σ H1 else D.nx σ H1)
    (mono : ∀ σ H Q Q', (∀ b H1, Q b H1 → Q' b H1) → c σ H Q → c σ H Q') : tWhile c tb D σ H := by
  refine ⟨fun m σ H => m = μ σ H ∧ Pv σ H, ⟨_, rfl, h0⟩, ?_⟩
  rintro m σ H ⟨rfl, p⟩
  refine mono σ H _ _ (fun b H1 q => ?_) (hs σ H p)
  cases b with
  | true => exact ⟨_, fun σ' H' ⟨p', l⟩ => ⟨_, l, rfl, p'⟩, q⟩
  | false => exact q
end L2

namespace L2
open PySem PySem.Spec PyProof.Rows

abbrev R2 := V → V → Hp → VK → Prop
/-- a two-place operation on values: f is binaryOp op, inplaceOp op or compareOp op -/
def OpR (X : Cx) (f : Value → Value → Sem Value) (r : R2) : Prop :=
  ∀ (pins : List (Addr × Obj)) (s : Shared) (σ : St) (H : Hp) (x y : V) (v u : Value) (Q : VK), Inv X pins σ H s → RelV x v → RelV y u → r x y H Q →
    wpAny (model X.prog X.w) X.A (f v u) (EP X pins σ Q) X.xe s
/-- a one-place operation -/
def UnR (X : Cx) (f : Value → Sem Value) (r : V → Hp → VK → Prop) : Prop :=
  ∀ (pins : List (Addr × Obj)) (s : Shared) (σ : St) (H : Hp) (x : V) (v : Value) (Q : VK), Inv X pins σ H s → RelV x v → r x H Q →
    wpAny (model X.prog X.w) X.A (f v) (EP X pins σ Q) X.xe s
/-- a call of a value that is known (a builtin, a type) with values -/
def CallR (X : Cx) (f : Value) (r : List V → Hp → VK → Prop) : Prop :=
  ∀ (pins : List (Addr × Obj)) (s : Shared) (σ : St) (H : Hp) (xs : List V) (us : List Value) (Q : VK), Inv X pins σ H s → Vals xs us → r xs H Q →
    wpAny (model X.prog X.w) X.A (call f us) (EP X pins σ Q) X.xe s
/-- a value's truth -/
def TruR (X : Cx) (r : V → Hp → (Bool → Hp → Prop) → Prop) : Prop :=
  ∀ (pins : List (Addr × Obj)) (s : Shared) (σ : St) (H : Hp) (x : V) (v : Value) (Q : Bool → Hp → Prop), Inv X pins σ H s → RelV x v → r x H Q →
    wpAny (model X.prog X.w) X.A (truthy v) (TP X pins σ Q) X.xe s

def tOp (r : R2) (ta tb : TE) : TE := fun σ H Q => ta σ H fun x H1 => tb σ H1 fun y H2 => r x y H2 Q
def tUn (r : V → Hp → VK → Prop) (ta : TE) : TE := fun σ H Q => ta σ H fun x H1 => r x H1 Q
/-- ints in, under C, and a value out -/
def rI (C : Int → Int → Prop) (g : Int → Int → V) : R2 := fun x y H Q => ∃ i j, x = .int i ∧ y = .int j ∧ C i j ∧ Q (g i j) H
def rI0 (g : Int → Int → V) : R2 := fun x y H Q => ∃ i j, x = .int i ∧ y = .int j ∧ Q (g i j) H
def rU (g : Int → V) : V → Hp → VK → Prop := fun x H Q => ∃ i, x = .int i ∧ Q (g i) H

section
variable {X : Cx} {a b c : Expr} {ta tb tc : TE} {pos : Pos}

theorem binT (ha : PE X a ta) (hb : PE X b tb) {pins : List (Addr × Obj)} {s : Shared} {σ : St} {H : Hp} {R : V → V → Hp → Prop} (I : Inv X pins σ H s)
    (h : ta σ H fun x H1 => tb σ H1 fun y H2 => R x y H2) {Q : Value → Shared → Prop} {f : Value → Value → Sem Value}
    (hf : ∀ v u s2 x y H2, Inv X pins σ H2 s2 → RelV x v → RelV y u → R x y H2 → wpAny (model X.prog X.w) X.A (f v u) Q X.xe s2) :
    wpAny (model X.prog X.w) X.A (eval a X.env) (fun v s₁ => wpAny (model X.prog X.w) X.A (eval b X.env) (fun u s₂ => wpAny (model X.prog X.w) X.A (f v u) Q X.xe s₂) X.xe s₁) X.xe s := by
  refine thn (ha pins s σ H _ I h) fun v s1 ⟨x, H1, I1, r1, q1⟩ => ?_
  refine thn (hb pins s1 σ H1 _ I1 q1) fun u s2 ⟨y, H2, I2, r2, q2⟩ => ?_
  exact hf v u s2 x y H2 I2 r1 r2 q2

theorem pe_op {op : Operator} {r : R2} (ho : OpR X (binaryOp op) r) (ha : PE X a ta) (hb : PE X b tb) : PE X (.BinOp a op b pos) (tOp r ta tb) := by
  intro pins s σ H Q I h
  exact wpAny_BinOp (binT ha hb I h fun v u s2 x y H2 I2 rx ry q => ho pins s2 σ H2 x y v u Q I2 rx ry q)
theorem pe_un {op : UnaryOp} {r : V → Hp → VK → Prop} (ho : UnR X (unaryOp op) r) (ha : PE X a ta) : PE X (.UnaryOp op a pos) (tUn r ta) := by
  intro pins s σ H Q I h
  exact UnaryOp_ (thn (ha pins s σ H _ I h) fun v s1 ⟨x, H1, I1, r1, q1⟩ => ho pins s1 σ H1 x v Q I1 r1 q1)
/-- a op= e at a name: the name's slot i -/
theorem augR {op : Operator} {r : R2} (ho : OpR X (inplaceOp op) r) {pins : List (Addr × Obj)} {s : Shared} {σ : St} {H : Hp} {x y : V} {v u : Value} {Q : VK} (I : Inv X pins σ H s)
    (rx : RelV x v) (ry : RelV y u) (q : r x y H Q) : wpAny (model X.prog X.w) X.A (inplaceOp op v u) (EP X pins σ Q) X.xe s := ho pins s σ H x y v u Q I rx ry q

/-! ### ints -/
theorem opI {f : Value → Value → Sem Value} {C : Int → Int → Prop} {g : Int → Int → Int}
    (rule : ∀ (i j : Int) (t u : Tok) (s : Shared) (Q : Value → Shared → Prop) (E : Value → Shared → Prop), C i j → Q (.int (g i j) s.toks) { s with toks := s.toks + 1 } → wpAny (model X.prog X.w) X.A (f (.int i t) (.int j u)) Q E s) :
    OpR X f (rI C fun i j => .int (g i j)) := by
  intro pins s σ H x y v u Q I rx ry h
  obtain ⟨i, j, rfl, rfl, hc, q⟩ := h
  obtain ⟨t, rfl⟩ := rx
  obtain ⟨t', rfl⟩ := ry
  exact rule i j t t' s _ _ hc ⟨.int (g i j), H, I.tok _, ⟨_, rfl⟩, q⟩
theorem opI0 {f : Value → Value → Sem Value} {g : Int → Int → Int}
    (rule : ∀ (i j : Int) (t u : Tok) (s : Shared) (Q : Value → Shared → Prop) (E : Value → Shared → Prop), Q (.int (g i j) s.toks) { s with toks := s.toks + 1 } → wpAny (model X.prog X.w) X.A (f (.int i t) (.int j u)) Q E s) :
    OpR X f (rI0 fun i j => .int (g i j)) := by
  intro pins s σ H x y v u Q I rx ry h
  obtain ⟨i, j, rfl, rfl, q⟩ := h
  obtain ⟨t, rfl⟩ := rx
  obtain ⟨t', rfl⟩ := ry
  exact rule i j t t' s _ _ ⟨.int (g i j), H, I.tok _, ⟨_, rfl⟩, q⟩
theorem opB0 {f : Value → Value → Sem Value} {g : Int → Int → Bool}
    (rule : ∀ (i j : Int) (t u : Tok) (s : Shared) (Q : Value → Shared → Prop) (E : Value → Shared → Prop), Q (.bool (g i j)) s → wpAny (model X.prog X.w) X.A (f (.int i t) (.int j u)) Q E s) :
    OpR X f (rI0 fun i j => .bl (g i j)) := by
  intro pins s σ H x y v u Q I rx ry h
  obtain ⟨i, j, rfl, rfl, q⟩ := h
  obtain ⟨t, rfl⟩ := rx
  obtain ⟨t', rfl⟩ := ry
  exact rule i j t t' s _ _ ⟨.bl (g i j), H, I, rfl, q⟩

def CDiv (i j : Int) : Prop := 0 < j ∧ j < 1073741824
def CDivN (i j : Int) : Prop := j ≠ 0 ∧ j.natAbs < 1073741824
def CPow (i j : Int) : Prop := 0 ≤ j ∧ j ≤ 1000000 ∧ i.natAbs < 2 ^ 64
def CMul (i j : Int) : Prop := (-(2 ^ 64) < i ∧ i < 2 ^ 64) ∨ (-(2 ^ 64) < j ∧ j < 2 ^ 64)
theorem CMul.ok {i j : Int} (h : CMul i j) : IntMulOk i j := by
  rcases h with ⟨h1, h2⟩ | ⟨h1, h2⟩
  · exact .of_left (intBits_le_64 h1 h2)
  · exact .of_right (intBits_le_64 h1 h2)
theorem two_pow_nn (k : Nat) : (0 : Int) ≤ 2 ^ k := by
  rw [two_pow_cast]
  exact Int.natCast_nonneg _

theorem op_add : OpR X (binaryOp .Add) (rI0 fun i j => .int (i + j)) := opI0 fun _ _ _ _ _ _ _ q => add_int q
theorem op_sub : OpR X (binaryOp .Sub) (rI0 fun i j => .int (i - j)) := opI0 fun _ _ _ _ _ _ _ q => sub_int q
theorem op_mul : OpR X (binaryOp .Mult) (rI CMul fun i j => .int (i * j)) := opI fun _ _ _ _ _ _ _ hc q => mul_int q hc.ok
/-- // by a positive divisor -/
theorem op_fdiv : OpR X (binaryOp .FloorDiv) (rI CDiv fun i j => .int (i / j)) := opI fun i j _ _ _ _ _ hc q => by
  have h1 : (0 : Int) < j := hc.1
  have h2 : j < 1073741824 := hc.2
  exact floordiv_int (by omega) (by rw [Int.fdiv_eq_ediv_of_nonneg i (by omega)]; exact q) (.inl (PyProof.noPylong_small (by omega)))
theorem op_fdivN : OpR X (binaryOp .FloorDiv) (rI CDivN fun i j => .int (i.fdiv j)) := opI fun _ _ _ _ _ _ _ hc q => floordiv_int hc.1 q (.inl (PyProof.noPylong_small hc.2))
/-- % by a positive divisor of any size -/
theorem op_mod : OpR X (binaryOp .Mod) (rI (fun _ j => 0 < j) fun i j => .int (i % j)) := opI fun i j _ _ _ _ _ hc q => by
  have h1 : (0 : Int) < j := hc
  exact mod_int' (by omega) (by rw [Int.fmod_eq_emod_of_nonneg i (by omega)]; exact q)
theorem op_modN : OpR X (binaryOp .Mod) (rI (fun _ j => j ≠ 0) fun i j => .int (i.fmod j)) := opI fun _ _ _ _ _ _ _ hc q => mod_int' hc q
theorem op_pow : OpR X (binaryOp .Pow) (rI CPow fun i j => .int (i ^ j.toNat)) := opI fun _ _ _ _ _ _ _ hc q => pow_int_small hc.1 hc.2.1 hc.2.2 q
theorem op_shl : OpR X (binaryOp .LShift) (rI CPow fun i j => .int (i * 2 ^ j.toNat)) := opI fun _ _ _ _ _ _ _ hc q => lshift_int_small hc.1 hc.2.1 hc.2.2 q
theorem op_shr : OpR X (binaryOp .RShift) (rI (fun _ j => 0 ≤ j) fun i j => .int (i / 2 ^ j.toNat)) := opI fun i j _ _ _ _ _ hc q =>
  rshift_int hc (by rw [Int.fdiv_eq_ediv_of_nonneg i (two_pow_nn _)]; exact q)
theorem op_and : OpR X (binaryOp .BitAnd) (rI0 fun i j => .int (Builtin.bitAnd i j)) := opI0 fun _ _ _ _ _ _ _ q => and_int q
theorem op_or : OpR X (binaryOp .BitOr) (rI0 fun i j => .int (Builtin.bitOr i j)) := opI0 fun _ _ _ _ _ _ _ q => or_int q
theorem op_xor : OpR X (binaryOp .BitXor) (rI0 fun i j => .int (Builtin.bitXor i j)) := opI0 fun _ _ _ _ _ _ _ q => xor_int q

theorem iop_add : OpR X (inplaceOp .Add) (rI0 fun i j => .int (i + j)) := opI0 fun _ _ _ _ _ _ _ q => iadd_int q
theorem iop_sub : OpR X (inplaceOp .Sub) (rI0 fun i j => .int (i - j)) := opI0 fun _ _ _ _ _ _ _ q => isub_int q
theorem iop_mul : OpR X (inplaceOp .Mult) (rI CMul fun i j => .int (i * j)) := opI fun _ _ _ _ _ _ _ hc q => imul_int q hc.ok
theorem iop_fdiv : OpR X (inplaceOp .FloorDiv) (rI CDiv fun i j => .int (i / j)) := opI fun i j _ _ _ _ _ hc q => by
  have h1 : (0 : Int) < j := hc.1
  have h2 : j < 1073741824 := hc.2
  exact ifloordiv_int (by omega) (by rw [Int.fdiv_eq_ediv_of_nonneg i (by omega)]; exact q) (.inl (PyProof.noPylong_small (by omega)))
theorem iop_mod : OpR X (inplaceOp .Mod) (rI (fun _ j => 0 < j) fun i j => .int (i % j)) := opI fun i j _ _ _ _ _ hc q => by
  have h1 : (0 : Int) < j := hc
  exact imod_int (by omega) (by rw [Int.fmod_eq_emod_of_nonneg i (by omega)]; exact q)
theorem iop_shl : OpR X (inplaceOp .LShift) (rI CPow fun i j => .int (i * 2 ^ j.toNat)) := opI fun _ _ _ _ _ _ _ hc q => ilshift_int_small hc.1 hc.2.1 hc.2.2 q
theorem iop_shr : OpR X (inplaceOp .RShift) (rI (fun _ j => 0 ≤ j) fun i j => .int (i / 2 ^ j.toNat)) := opI fun i j _ _ _ _ _ hc q =>
  irshift_int hc (by rw [Int.fdiv_eq_ediv_of_nonneg i (two_pow_nn _)]; exact q)
theorem iop_and : OpR X (inplaceOp .BitAnd) (rI0 fun i j => .int (Builtin.bitAnd i j)) := opI0 fun _ _ _ _ _ _ _ q => iand_int q
theorem iop_or : OpR X (inplaceOp .BitOr) (rI0 fun i j => .int (Builtin.bitOr i j)) := opI0 fun _ _ _ _ _ _ _ q => ior_int q
theorem iop_xor : OpR X (inplaceOp .BitXor) (rI0 fun i j => .int (Builtin.bitXor i j)) := opI0 fun _ _ _ _ _ _ _ q => ixor_int q

theorem unI {f : Value → Sem Value} {g : Int → Int}
    (rule : ∀ (i : Int) (t : Tok) (s : Shared) (Q : Value → Shared → Prop) (E : Value → Shared → Prop), Q (.int (g i) s.toks) { s with toks := s.toks + 1 } → wpAny (model X.prog X.w) X.A (f (.int i t)) Q E s) :
    UnR X f (rU fun i => .int (g i)) := by
  intro pins s σ H x v Q I rx h
  obtain ⟨i, rfl, q⟩ := h
  obtain ⟨t, rfl⟩ := rx
  exact rule i t s _ _ ⟨.int (g i), H, I.tok _, ⟨_, rfl⟩, q⟩
theorem un_neg : UnR X (unaryOp .USub) (rU fun i => .int (-i)) := unI fun _ _ _ _ _ q => neg_int q
theorem un_inv : UnR X (unaryOp .Invert) (rU fun i => .int (Builtin.bitNot i)) := unI fun _ _ _ _ _ q => invert_int q

/-! ### bools among ints: n += (a < b) -/
theorem op_add_ib : OpR X (binaryOp .Add) (fun x y H Q => ∃ i k, x = .int i ∧ y = .bl k ∧ Q (.int (i + b2i k)) H) := by
  intro pins s σ H x y v u Q I rx ry h
  obtain ⟨i, k, rfl, rfl, q⟩ := h
  obtain ⟨t, rfl⟩ := rx
  cases ry
  exact add_int_bool ⟨.int (i + b2i k), H, I.tok _, ⟨_, rfl⟩, q⟩
end

/-! ### comparisons -/
/-- the scalars that == tells apart as data does -/
def scal : V → V → Bool
  | .non, .non => true | .non, .int _ => true | .int _, .non => true | .non, .bl _ => true | .bl _, .non => true | .non, .str _ => true | .str _, .non => true
  | .int _, .int _ => true | .bl _, .bl _ => true | .str _, .str _ => true | .byt _, .byt _ => true
  | .int _, .str _ => true | .str _, .int _ => true | .bl _, .str _ => true | .str _, .bl _ => true
  | _, _ => false
def rEq : R2 := fun x y H Q => scal x y = true ∧ Q (.bl (decide (x = y))) H
def rNe : R2 := fun x y H Q => scal x y = true ∧ Q (.bl (!decide (x = y))) H

theorem dec_int {i j : Int} : decide (V.int i = V.int j) = (i == j) := by
  rw [Bool.eq_iff_iff]
  simp
theorem dec_bl {i j : Bool} : decide (V.bl i = V.bl j) = (i == j) := by
  rw [Bool.eq_iff_iff]
  simp
theorem dec_str {i j : Str} : decide (V.str i = V.str j) = (i == j) := by
  rw [Bool.eq_iff_iff]
  simp
theorem dec_byt {i j : Array UInt8} : decide (V.byt i = V.byt j) = (i.toList == j.toList) := by
  rw [Bool.eq_iff_iff]
  cases i
  cases j
  simp

section
variable {X : Cx} {a b c : Expr} {ta tb tc : TE} {pos : Pos}
theorem fin_bl {pins : List (Addr × Obj)} {σ : St} {H : Hp} {s : Shared} {Q : VK} {k k' : Bool} (I : Inv X pins σ H s) (q : Q (.bl k) H) (e : k = k') : EP X pins σ Q (.bool k') s := by
  subst e
  exact ⟨.bl k, H, I, rfl, q⟩
theorem op_eq : OpR X (compareOp .Eq) rEq := by
  intro pins s σ H x y v u Q I rx ry h
  obtain ⟨hs, q⟩ := h
  cases x with
  | non =>
    cases rx
    cases y with
    | non => cases ry; exact PySem.EqNone.eq_none_none (fin_bl I q (by simp))
    | bl j => cases ry; exact PySem.EqNone.eq_none_bool (fin_bl I q (by simp))
    | int j => obtain ⟨t', rfl⟩ := ry; exact PySem.EqNone.eq_none_int (fin_bl I q (by simp))
    | str j => obtain ⟨t', rfl⟩ := ry; exact PySem.EqNone.eq_none_str (fin_bl I q (by simp))
    | _ => exact absurd (show false = true from hs) Bool.false_ne_true
  | bl i =>
    cases rx
    cases y with
    | non => cases ry; exact PySem.EqNone.eq_bool_none (fin_bl I q (by simp))
    | bl j => cases ry; exact eq_bool (fin_bl I q dec_bl)
    | str j => obtain ⟨t', rfl⟩ := ry; exact PySem.EqMixed.eq_bool_str (fin_bl I q (by simp))
    | _ => exact absurd (show false = true from hs) Bool.false_ne_true
  | int i =>
    obtain ⟨t, rfl⟩ := rx
    cases y with
    | non => cases ry; exact PySem.EqNone.eq_int_none (fin_bl I q (by simp))
    | int j => obtain ⟨t', rfl⟩ := ry; exact eq_int (fin_bl I q dec_int)
    | str j => obtain ⟨t', rfl⟩ := ry; exact PySem.EqMixed.eq_int_str (fin_bl I q (by simp))
    | _ => exact absurd (show false = true from hs) Bool.false_ne_true
  | str i =>
    obtain ⟨t, rfl⟩ := rx
    cases y with
    | non => cases ry; exact PySem.EqNone.eq_str_none (fin_bl I q (by simp))
    | bl j => cases ry; exact PySem.EqMixed.eq_str_bool (fin_bl I q (by simp))
    | int j => obtain ⟨t', rfl⟩ := ry; exact PySem.EqMixed.eq_str_int (fin_bl I q (by simp))
    | str j => obtain ⟨t', rfl⟩ := ry; exact eq_str (fin_bl I q dec_str)
    | _ => exact absurd (show false = true from hs) Bool.false_ne_true
  | byt i =>
    obtain ⟨t, rfl⟩ := rx
    cases y with
    | byt j => obtain ⟨t', rfl⟩ := ry; exact PySem.W.eq_bytes (fin_bl I q dec_byt)
    | _ => exact absurd (show false = true from hs) Bool.false_ne_true
  | _ => cases y <;> exact absurd (show false = true from hs) Bool.false_ne_true
theorem op_ne : OpR X (compareOp .NotEq) rNe := by
  intro pins s σ H x y v u Q I rx ry h
  obtain ⟨hs, q⟩ := h
  cases x with
  | non =>
    cases rx
    cases y with
    | non => cases ry; exact PySem.EqNone.ne_none_none (fin_bl I q (by simp))
    | bl j => cases ry; exact PySem.EqNone.ne_none_bool (fin_bl I q (by simp))
    | int j => obtain ⟨t', rfl⟩ := ry; exact PySem.EqNone.ne_none_int (fin_bl I q (by simp))
    | str j => obtain ⟨t', rfl⟩ := ry; exact PySem.EqNone.ne_none_str (fin_bl I q (by simp))
    | _ => exact absurd (show false = true from hs) Bool.false_ne_true
  | bl i =>
    cases rx
    cases y with
    | non => cases ry; exact PySem.EqNone.ne_bool_none (fin_bl I q (by simp))
    | bl j => cases ry; exact ne_bool (fin_bl I q (congrArg not dec_bl))
    | str j => obtain ⟨t', rfl⟩ := ry; exact PySem.EqMixed.ne_bool_str (fin_bl I q (by simp))
    | _ => exact absurd (show false = true from hs) Bool.false_ne_true
  | int i =>
    obtain ⟨t, rfl⟩ := rx
    cases y with
    | non => cases ry; exact PySem.EqNone.ne_int_none (fin_bl I q (by simp))
    | int j => obtain ⟨t', rfl⟩ := ry; exact ne_int (fin_bl I q (congrArg not dec_int))
    | str j => obtain ⟨t', rfl⟩ := ry; exact PySem.EqMixed.ne_int_str (fin_bl I q (by simp))
    | _ => exact absurd (show false = true from hs) Bool.false_ne_true
  | str i =>
    obtain ⟨t, rfl⟩ := rx
    cases y with
    | non => cases ry; exact PySem.EqNone.ne_str_none (fin_bl I q (by simp))
    | bl j => cases ry; exact PySem.EqMixed.ne_str_bool (fin_bl I q (by simp))
    | int j => obtain ⟨t', rfl⟩ := ry; exact PySem.EqMixed.ne_str_int (fin_bl I q (by simp))
    | str j => obtain ⟨t', rfl⟩ := ry; exact ne_str (fin_bl I q (congrArg not dec_str))
    | _ => exact absurd (show false = true from hs) Bool.false_ne_true
  | byt i =>
    obtain ⟨t, rfl⟩ := rx
    cases y with
    | byt j => obtain ⟨t', rfl⟩ := ry; exact PySem.W.ne_bytes (fin_bl I q (congrArg not dec_byt))
    | _ => exact absurd (show false = true from hs) Bool.false_ne_true
  | _ => cases y <;> exact absurd (show false = true from hs) Bool.false_ne_true

theorem op_lt : OpR X (compareOp .Lt) (rI0 fun i j => .bl (decide (i < j))) := opB0 fun _ _ _ _ _ _ _ q => lt_int q
theorem op_le : OpR X (compareOp .LtE) (rI0 fun i j => .bl (decide (i ≤ j))) := opB0 fun _ _ _ _ _ _ _ q => le_int q
theorem op_gt : OpR X (compareOp .Gt) (rI0 fun i j => .bl (decide (j < i))) := opB0 fun _ _ _ _ _ _ _ q => gt_int q
theorem op_ge : OpR X (compareOp .GtE) (rI0 fun i j => .bl (decide (j ≤ i))) := opB0 fun _ _ _ _ _ _ _ q => ge_int q
theorem op_lt_str : OpR X (compareOp .Lt) (fun x y H Q => ∃ i j, x = .str i ∧ y = .str j ∧ Q (.bl (decide (i.cps.toList < j.cps.toList))) H) := by
  intro pins s σ H x y v u Q I rx ry h
  obtain ⟨i, j, rfl, rfl, q⟩ := h
  obtain ⟨t, rfl⟩ := rx
  obtain ⟨t', rfl⟩ := ry
  exact lt_str (fin_bl I q rfl)
/-- the one string within the other -/
theorem op_in_str : OpR X (compareOp .In) (fun x y H Q => ∃ i j, x = .str i ∧ y = .str j ∧ Q (.bl (!(Builtin.Str.occurrences j i 0 j.length 1).isEmpty)) H) := by
  intro pins s σ H x y v u Q I rx ry h
  obtain ⟨i, j, rfl, rfl, q⟩ := h
  obtain ⟨t, rfl⟩ := rx
  obtain ⟨t', rfl⟩ := ry
  exact in_str (fin_bl I q rfl)

/-- is None, is not None: the right side a value none -/
theorem op_isN : OpR X (compareOp .Is) (fun x y H Q => y = .non ∧ Q (.bl (decide (x = .non))) H) := by
  intro pins s σ H x y v u Q I rx ry h
  obtain ⟨rfl, q⟩ := h
  cases ry
  refine is_none_gen (fin_bl I q ?_)
  cases x <;> first
    | (cases rx; rfl)
    | (obtain ⟨t, rfl⟩ := rx; rfl)
theorem op_notN : OpR X (compareOp .IsNot) (fun x y H Q => y = .non ∧ Q (.bl (!decide (x = .non))) H) := by
  intro pins s σ H x y v u Q I rx ry h
  obtain ⟨rfl, q⟩ := h
  cases ry
  refine isnot_none_gen (fin_bl I q ?_)
  cases x <;> first
    | (cases rx; rfl)
    | (obtain ⟨t, rfl⟩ := rx; rfl)

theorem op_notin_str : OpR X (compareOp .NotIn) (fun x y H Q => ∃ i j, x = .str i ∧ y = .str j ∧ Q (.bl (!(!(Builtin.Str.occurrences j i 0 j.length 1).isEmpty))) H) := by
  intro pins s σ H x y v u Q I rx ry h
  obtain ⟨i, j, rfl, rfl, q⟩ := h
  obtain ⟨t, rfl⟩ := rx
  obtain ⟨t', rfl⟩ := ry
  exact notIn_str (fin_bl I q rfl)
/-- is, is not of two objects that are tracked lists or instances -/
def isObj : HO → Bool
  | .lst _ => true
  | .ins _ _ _ => true
  | _ => false
theorem obj_there {pins : List (Addr × Obj)} {s : Shared} {σ : St} {H : Hp} {a : Addr} {o : HO} (I : Inv X pins σ H s) (h : H a = some o) (p : isObj o = true) : ∃ ob, s.heap.get? a = some ob ∧ ob.cls ≠ .type "tuple" := by
  cases o with
  | lst xs =>
    obtain ⟨_, its, n, _, e⟩ : xs.length ≤ sizeLine ∧ ∃ (its : List Value) (n : Nat), Vals xs its ∧ s.heap.get? a = some { cls := .type "list", data := .seq its.toArray n } := I.hok a _ h
    exact ⟨_, e, (by show Value.type "list" ≠ .type "tuple"; decide +kernel)⟩
  | ins C dx fs =>
    have x := I.hok a _ h
    obtain ⟨_, _, _, e, _⟩ := x
    exact ⟨_, e, (by show Value.ref C ≠ .type "tuple"; exact fun z => by cases z)⟩
  | _ => exact absurd (show false = true from p) Bool.false_ne_true
theorem op_is_ref : OpR X (compareOp .Is) (fun x y H Q => ∃ a b oa ob, x = .ref a ∧ y = .ref b ∧ H a = some oa ∧ isObj oa = true ∧ H b = some ob ∧ isObj ob = true ∧ Q (.bl (decide (a = b))) H) := by
  intro pins s σ H x y v u Q I rx ry h
  obtain ⟨a, b, oa, ob, rfl, rfl, ha, pa, hb, pb, q⟩ := h
  cases rx
  cases ry
  obtain ⟨o1, e1, n1⟩ := obj_there I ha pa
  obtain ⟨o2, e2, _⟩ := obj_there I hb pb
  by_cases z : a = b
  · subst z
    exact wpAny_is_ref_self (fin_bl I q (by simp))
  · exact wpAny_is_ref_other z e1 e2 n1 (fin_bl I q (by simp [z]))
theorem op_isnot_ref : OpR X (compareOp .IsNot) (fun x y H Q => ∃ a b oa ob, x = .ref a ∧ y = .ref b ∧ H a = some oa ∧ isObj oa = true ∧ H b = some ob ∧ isObj ob = true ∧ Q (.bl (!decide (a = b))) H) := by
  intro pins s σ H x y v u Q I rx ry h
  obtain ⟨a, b, oa, ob, rfl, rfl, ha, pa, hb, pb, q⟩ := h
  cases rx
  cases ry
  obtain ⟨o1, e1, n1⟩ := obj_there I ha pa
  obtain ⟨o2, e2, _⟩ := obj_there I hb pb
  by_cases z : a = b
  · subst z
    exact wpAny_isNot_ref_self (fin_bl I q (by simp))
  · exact wpAny_isNot_ref_other z e1 e2 n1 (fin_bl I q (by simp [z]))

/-- two rules for one operation: by cases -/
theorem OpR.or {f : Value → Value → Sem Value} {r r' : R2} (h : OpR X f r) (h' : OpR X f r') : OpR X f (fun x y H Q => r x y H Q ∨ r' x y H Q) := by
  intro pins s σ H x y v u Q I rx ry q
  rcases q with q | q
  · exact h pins s σ H x y v u Q I rx ry q
  · exact h' pins s σ H x y v u Q I rx ry q

theorem nomark (b : Expr) {op : CmpOp} (h : op ≠ .In := by decide) (h2 : op ≠ .NotIn := by decide) : behindInMarks op b = false := by
  have e1 : (op == CmpOp.In) = false := by cases op <;> first | rfl | exact absurd rfl h
  have e2 : (op == CmpOp.NotIn) = false := by cases op <;> first | rfl | exact absurd rfl h2
  cases b <;> simp [behindInMarks, e1, e2]
/-- a comparison as a value; hm: nomark b, or (for in, not in) by with_unfolding_all rfl -/
theorem pe_cmpR {op : CmpOp} {r : R2} (ho : OpR X (compareOp op) r) (ha : PE X a ta) (hb : PE X b tb) (hm : behindInMarks op b = false) : PE X (.Compare a [op] [b] pos) (tOp r ta tb) := by
  intro pins s σ H Q I h
  exact wpAny_Compare1 (binT ha hb I h fun v u s2 x y H2 I2 rx ry q => ho pins s2 σ H2 x y v u Q I2 rx ry q) hm
/-- a reading of a value as a test -/
def tTest (t : TE) : TT := fun σ H Q => t σ H fun x H' => ∃ k, x = .bl k ∧ Q k H'
theorem pt_cmpR {op : CmpOp} {r : R2} (ho : OpR X (compareOp op) r) (ha : PE X a ta) (hb : PE X b tb) (hm : behindInMarks op b = false) : PT X (.Compare a [op] [b] pos) (tTest (tOp r ta tb)) := by
  intro pins s σ H Q I h
  refine wpAny_isTrue_Compare1 (thn (ha pins s σ H _ I h) fun v s1 ⟨x, H1, I1, r1, q1⟩ => thn (hb pins s1 σ H1 _ I1 q1) fun u s2 ⟨y, H2, I2, r2, q2⟩ =>
    thn (ho pins s2 σ H2 x y v u _ I2 r1 r2 q2) fun c s3 ⟨z, H3, I3, r3, k, e, q3⟩ => ?_) hm
  subst e
  cases r3
  exact wpAny_truthy_bool ⟨H3, I3, q3⟩
/-- a op1 b op2 c -/
def tChain (r r' : R2) (ta tb tc : TE) : TE := fun σ H Q => ta σ H fun x H1 => tb σ H1 fun y H2 => r x y H2 fun z H3 => ∃ k, z = .bl k ∧
  (if k = true then tc σ H3 fun w' H4 => r' y w' H4 Q else Q (.bl false) H3)
theorem pe_chain {op op' : CmpOp} {r r' : R2} (ho : OpR X (compareOp op) r) (ho' : OpR X (compareOp op') r') (ha : PE X a ta) (hb : PE X b tb) (hc : PE X c tc)
    (hm : lastMarks [op, op'] [b, c] = false := by with_unfolding_all rfl) : PE X (.Compare a [op, op'] [b, c] pos) (tChain r r' ta tb tc) := by
  intro pins s σ H Q I h
  refine Compare_chain (thn (ha pins s σ H _ I h) fun v s1 ⟨x, H1, I1, r1, q1⟩ => chain_link (thn (hb pins s1 σ H1 _ I1 q1) fun u s2 ⟨y, H2, I2, r2, q2⟩ =>
    thn (ho pins s2 σ H2 x y v u _ I2 r1 r2 q2) fun d s3 ⟨z, H3, I3, r3, k, e, q3⟩ => ?_)) hm
  subst e
  cases r3
  refine wpAny_truthy_bool ?_
  cases k with
  | false => exact ite_ff ⟨.bl false, H3, I3, rfl, q3⟩
  | true => exact ite_tt (chain_last (thn (hc pins s3 σ H3 _ I3 q3) fun w' s4 ⟨z', H4, I4, r4, q4⟩ => ho' pins s4 σ H4 y z' u w' Q I4 r2 r4 q4))
theorem pt_chain {op op' : CmpOp} {r r' : R2} (ho : OpR X (compareOp op) r) (ho' : OpR X (compareOp op') r') (ha : PE X a ta) (hb : PE X b tb) (hc : PE X c tc)
    (hm : lastMarks [op, op'] [b, c] = false := by with_unfolding_all rfl) : PT X (.Compare a [op, op'] [b, c] pos) (tTest (tChain r r' ta tb tc)) := by
  intro pins s σ H Q I h
  refine isTrue_chain (thn (ha pins s σ H _ I h) fun v s1 ⟨x, H1, I1, r1, q1⟩ => test_link (thn (hb pins s1 σ H1 _ I1 q1) fun u s2 ⟨y, H2, I2, r2, q2⟩ =>
    thn (ho pins s2 σ H2 x y v u _ I2 r1 r2 q2) fun d s3 ⟨z, H3, I3, r3, k, e, q3⟩ => ?_)) hm
  subst e
  cases r3
  refine wpAny_truthy_bool ?_
  cases k with
  | false =>
    obtain ⟨k', e', q'⟩ := q3
    cases e'
    exact ite_ff ⟨H3, I3, q'⟩
  | true =>
    refine ite_tt (test_last (thn (hc pins s3 σ H3 _ I3 q3) fun w' s4 ⟨z', H4, I4, r4, q4⟩ => thn (ho' pins s4 σ H4 y z' u w' _ I4 r2 r4 q4) fun d' s5 ⟨z2, H5, I5, r5, k2, e2, q5⟩ => ?_))
    subst e2
    cases r5
    exact wpAny_truthy_bool ⟨H5, I5, q5⟩

/-! ### truth -/
/-- a value's truth by the abstract heap -/
def TruV (K : PySem.W.Frag) (x : V) (H : Hp) (k : Bool) : Prop :=
  match x with
  | .non => k = false
  | .bl b => k = b
  | .int i => k = (i != 0)
  | .str y => y.length ≤ sizeLine ∧ k = ((y.length : Int) != 0)
  | .byt y => y.size ≤ sizeLine ∧ k = ((y.size : Int) != 0)
  | .ref p => (∃ xs, SqL K H p xs ∧ k = !xs.isEmpty) ∨ (∃ xs, SqT K H p xs ∧ k = !xs.isEmpty) ∨ ∃ kvs, H p = some (.dK kvs) ∧ k = !kvs.isEmpty
  | _ => False
theorem isEmpty_kv {κ : Type} {kvs : List (κ × V)} {vs : List (κ × Value)} (r : KV kvs vs) : (!vs.isEmpty) = !kvs.isEmpty := by
  cases r <;> rfl
theorem isEmpty_of {xs : List V} {its : List Value} (r : Vals xs its) : (!its.toArray.isEmpty) = !xs.isEmpty := by
  cases r <;> simp
theorem line63 : (sizeLine : Nat) < 2 ^ 63 := by rw [sizeLine_eq]; decide
theorem tru_ok : TruR X (fun x H Q => ∃ k, TruV X.K x H k ∧ Q k H) := by
  intro pins s σ H x v Q I rx h
  obtain ⟨k, e, q⟩ := h
  have hl := line63
  have hs : sizeLine = 16777216 := sizeLine_eq
  cases x with
  | non =>
    cases rx
    have e' : k = false := e
    subst e'
    exact truthy_none ⟨H, I, q⟩
  | bl b =>
    cases rx
    have e' : k = b := e
    subst e'
    exact wpAny_truthy_bool ⟨H, I, q⟩
  | int i =>
    obtain ⟨t, rfl⟩ := rx
    have e' : k = (i != 0) := e
    subst e'
    exact PySem.P.truthy_int ⟨H, I, q⟩
  | str y =>
    obtain ⟨t, rfl⟩ := rx
    obtain ⟨hy, e'⟩ : y.length ≤ sizeLine ∧ k = ((y.length : Int) != 0) := e
    subst e'
    exact PySem.P.truthy_str (by omega) ⟨H, I.tok _, q⟩
  | byt y =>
    obtain ⟨t, rfl⟩ := rx
    obtain ⟨hy, e'⟩ : y.size ≤ sizeLine ∧ k = ((y.size : Int) != 0) := e
    subst e'
    exact PySem.W.truthy_bytes (by omega) ⟨H, I.tok _, q⟩
  | ref p =>
    cases rx
    have e' : (∃ xs, SqL X.K H p xs ∧ k = !xs.isEmpty) ∨ (∃ xs, SqT X.K H p xs ∧ k = !xs.isEmpty) ∨ ∃ kvs, H p = some (.dK kvs) ∧ k = !kvs.isEmpty := e
    rcases e' with ⟨xs, hx, e'⟩ | ⟨xs, hx, e'⟩ | ⟨kvs, hx, e'⟩
    · subst e'
      obtain ⟨its, r, pl, hz⟩ := I.list hx
      have hlen := r.length
      exact wpAny_truthy_list pl.isList (by simp only [List.size_toArray]; omega) ⟨H, I.tok _, by rw [isEmpty_of r]; exact q⟩
    · subst e'
      obtain ⟨its, r, pl, hz⟩ := I.tuple hx
      have hlen := r.length
      exact truthy_tuple pl (by simp only [List.size_toArray]; omega) ⟨H, I.tok _, by rw [isEmpty_of r]; exact q⟩
    · subst e'
      obtain ⟨hz, hS, vs, r, m⟩ : kvs.length ≤ sizeLine ∧ (p == sysModules) = false ∧ ∃ vs, KV kvs vs ∧ s.heap.DictOf (mixKind X.prog X.w) p vs := I.hok p _ hx
      have hlen : kvs.length = vs.length := Paired.length r
      exact wpAny_truthy_dict hS m (by omega) ⟨H, I.tok _, by rw [isEmpty_kv r]; exact q⟩
  | _ => exact (show False from e).elim
/-- any expression whose test is its value's truth (a name, a call, a subscript, a field ..: he by fun _ => rfl) -/
theorem pt_truth (ha : PE X a ta) (he : ∀ whole, isTrue a X.env whole = (do let v ← whole; standAt a.pos; holding [v] (truthy v))) :
    PT X a (fun σ H Q => ta σ H fun x H' => ∃ k, TruV X.K x H' k ∧ Q k H') := by
  intro pins s σ H Q I h
  exact isTrue_plain (thn (ha pins s σ H _ I h) fun v s1 ⟨x, H1, I1, r1, q1⟩ => tru_ok pins s1 σ H1 x v Q I1 r1 q1) (he _)

/-! ### strs and bytes -/
theorem pe_byt {x : List UInt8} {k : Nat} : PE X (.Constant (.bytes x) k pos) (fun _ H Q => Q (.byt x.toArray) H) := fun _ _ _ H _ I h => PySem.W.Constant_bytes ⟨.byt x.toArray, H, I.tok _, ⟨_, rfl⟩, h⟩
theorem op_add_str : OpR X (binaryOp .Add) (fun x y H Q => ∃ i j, x = .str i ∧ y = .str j ∧ i.length + j.length ≤ sizeLine ∧ Q (.str (i ++ j)) H) := by
  intro pins s σ H x y v u Q I rx ry h
  obtain ⟨i, j, rfl, rfl, hz, q⟩ := h
  obtain ⟨t, rfl⟩ := rx
  obtain ⟨t', rfl⟩ := ry
  exact add_str (fun t' tk => ⟨.str (i ++ j), H, I.tok _, ⟨_, rfl⟩, q⟩) hz
theorem iop_add_str : OpR X (inplaceOp .Add) (fun x y H Q => ∃ i j, x = .str i ∧ y = .str j ∧ i.length + j.length ≤ sizeLine ∧ Q (.str (i ++ j)) H) := by
  intro pins s σ H x y v u Q I rx ry h
  obtain ⟨i, j, rfl, rfl, hz, q⟩ := h
  obtain ⟨t, rfl⟩ := rx
  obtain ⟨t', rfl⟩ := ry
  exact iadd_str (fun t' tk => ⟨.str (i ++ j), H, I.tok _, ⟨_, rfl⟩, q⟩) hz
theorem op_add_byt : OpR X (binaryOp .Add) (fun x y H Q => ∃ i j, x = .byt i ∧ y = .byt j ∧ i.size + j.size ≤ 16777216 ∧ Q (.byt (i ++ j)) H) := by
  intro pins s σ H x y v u Q I rx ry h
  obtain ⟨i, j, rfl, rfl, hz, q⟩ := h
  obtain ⟨t, rfl⟩ := rx
  obtain ⟨t', rfl⟩ := ry
  exact PySem.W.KBy.add_bytes hz (fun t' tk => ⟨.byt (i ++ j), H, I.tok _, ⟨_, rfl⟩, q⟩)

def PlainIxT (b : Expr) : Prop := ∀ o i, subscripted b false o i = operate [o, i] (getItem o i)
/-- s[i], 0 ≤ i < len -/
theorem pe_item_str (ha : PE X a ta) (hb : PE X b tb) (hs : PlainIxT b) :
    PE X (.Subscript a b pos) (tOp (fun x y H Q => ∃ z i c, x = .str z ∧ y = .int i ∧ 0 ≤ i ∧ i < 2 ^ 63 ∧ i < z.length ∧ z.cps[i.toNat]? = some c ∧ Q (.str ⟨#[c]⟩) H) ta tb) := by
  intro pins s σ H Q I h
  refine Subscript_ (binT ha hb I h fun v u s2 x y H2 I2 rx ry q => ?_)
  obtain ⟨z, i, c, rfl, rfl, h0, h63, h1, hc, q⟩ := q
  obtain ⟨t, rfl⟩ := rx
  obtain ⟨t', rfl⟩ := ry
  have e : seqIndex? i z.length = some i.toNat := PySem.StrLaws.seqIndex_nonneg h0 h1
  exact tail_any (typeIs_str s2 z t) slot_str_getitem.lookup (getItem_str (c := c) (by
    have e1 : decide (i < -(2 ^ 63 : Int)) = false := decide_eq_false (by omega)
    have e2 : decide (i ≥ 2 ^ 63) = false := decide_eq_false (by omega)
    rw [e1, e2] <;> rfl) (by rw [e]; exact hc) ⟨.str ⟨#[c]⟩, H2, I2.tok _, ⟨_, rfl⟩, q⟩) (hs _ _)
/-- b[i], 0 ≤ i < len -/
theorem pe_item_byt (ha : PE X a ta) (hb : PE X b tb) (hs : PlainIxT b) :
    PE X (.Subscript a b pos) (tOp (fun x y H Q => ∃ (z : List UInt8) (i : Int), x = .byt z.toArray ∧ y = .int i ∧ z.length ≤ sizeLine ∧ 0 ≤ i ∧ i < z.length ∧ Q (.int ((z.getD i.toNat 0).toNat : Nat)) H) ta tb) := by
  intro pins s σ H Q I h
  refine Subscript_ (binT ha hb I h fun v u s2 x y H2 I2 rx ry q => ?_)
  obtain ⟨z, i, rfl, rfl, hz, h0, h1, q⟩ := q
  obtain ⟨t, rfl⟩ := rx
  obtain ⟨t', rfl⟩ := ry
  have hl : sizeLine = 16777216 := sizeLine_eq
  exact tail_any (PySem.W.typeIs_bytes s2 z.toArray t) PySem.W.FB.slot_bytes_getitem.lookup (PySem.W.getItem_bytes (by omega) h0 h1 ⟨.int ((z.getD i.toNat 0).toNat : Nat), H2, I2.tok _, ⟨_, rfl⟩, q⟩) (hs _ _)

/-! ### scalar builtins, by CallR -/
theorem vals1 {x : V} {us : List Value} (r : Vals [x] us) : ∃ u, us = [u] ∧ RelV x u := by
  cases r with
  | cons r1 r2 => cases r2; exact ⟨_, rfl, r1⟩
theorem vals2 {x y : V} {us : List Value} (r : Vals [x, y] us) : ∃ u w', us = [u, w'] ∧ RelV x u ∧ RelV y w' := by
  cases r with
  | cons r1 r2 =>
    cases r2 with
    | cons r3 r4 => cases r4; exact ⟨_, _, rfl, r1, r3⟩
theorem call_abs : CallR X (.builtin "abs") (fun xs H Q => ∃ i, xs = [.int i] ∧ Q (.int (if i < 0 then -i else i)) H) := by
  intro pins s σ H xs us Q I r h
  obtain ⟨i, rfl, q⟩ := h
  obtain ⟨u, rfl, t, rfl⟩ := vals1 r
  exact call_abs_int fun u tk => ⟨.int (if i < 0 then -i else i), H, I.tok _, ⟨_, rfl⟩, q⟩
theorem call_max2 (hc : X.calm = true) : CallR X (.builtin "max") (fun xs H Q => ∃ i j, xs = [.int i, .int j] ∧ Q (.int (if j > i then j else i)) H) := by
  intro pins s σ H xs us Q I r h
  obtain ⟨i, j, rfl, q⟩ := h
  obtain ⟨u, w', rfl, ⟨t, rfl⟩, ⟨t', rfl⟩⟩ := vals2 r
  refine max_two_ints (I.ok.hd hc) fun h' tk k => ⟨_, H, I.kept k, ?_, q⟩
  by_cases hj : j > i
  · rw [if_pos hj, if_pos hj]; exact ⟨_, rfl⟩
  · rw [if_neg hj, if_neg hj]; exact ⟨_, rfl⟩
theorem call_min2 (hc : X.calm = true) : CallR X (.builtin "min") (fun xs H Q => ∃ i j, xs = [.int i, .int j] ∧ Q (.int (if j < i then j else i)) H) := by
  intro pins s σ H xs us Q I r h
  obtain ⟨i, j, rfl, q⟩ := h
  obtain ⟨u, w', rfl, ⟨t, rfl⟩, ⟨t', rfl⟩⟩ := vals2 r
  refine min_two_ints (I.ok.hd hc) fun h' tk k => ⟨_, H, I.kept k, ?_, q⟩
  by_cases hj : j < i
  · rw [if_pos hj, if_pos hj]; exact ⟨_, rfl⟩
  · rw [if_neg hj, if_neg hj]; exact ⟨_, rfl⟩
theorem call_int1 : CallR X (.type "int") (fun xs H Q => (∃ i, xs = [.int i] ∧ Q (.int i) H) ∨ ∃ k, xs = [.bl k] ∧ Q (.int (if k then 1 else 0)) H) := by
  intro pins s σ H xs us Q I r h
  rcases h with ⟨i, rfl, q⟩ | ⟨k, rfl, q⟩
  · obtain ⟨u, rfl, t, rfl⟩ := vals1 r
    exact call_int_int ⟨.int i, H, I, ⟨_, rfl⟩, q⟩
  · obtain ⟨u, rfl, r1⟩ := vals1 r
    cases r1
    exact call_int_bool ⟨.int (if k then 1 else 0), H, I.tok _, ⟨_, rfl⟩, q⟩
theorem call_bool1 : CallR X (.type "bool") (fun xs H Q => (∃ i, xs = [.int i] ∧ Q (.bl (i != 0)) H) ∨ ∃ k, xs = [.bl k] ∧ Q (.bl k) H) := by
  intro pins s σ H xs us Q I r h
  rcases h with ⟨i, rfl, q⟩ | ⟨k, rfl, q⟩
  · obtain ⟨u, rfl, t, rfl⟩ := vals1 r
    exact call_bool_int ⟨.bl (i != 0), H, I, rfl, q⟩
  · obtain ⟨u, rfl, r1⟩ := vals1 r
    cases r1
    exact call_bool_bool ⟨.bl k, H, I, rfl, q⟩
theorem call_str_int : CallR X (.type "str") (fun xs H Q => ∃ i, xs = [.int i] ∧ i.natAbs.log2 < 1920 ∧ Q (.str (toString i)) H) := by
  intro pins s σ H xs us Q I r h
  obtain ⟨i, rfl, hz, q⟩ := h
  obtain ⟨u, rfl, t, rfl⟩ := vals1 r
  exact PySem.P.str_of_int hz ⟨.str _, H, I.tok _, ⟨_, rfl⟩, q⟩
theorem call_ord : CallR X (.builtin "ord") (fun xs H Q => ∃ x, xs = [.str x] ∧ x.length = 1 ∧ Q (.int (x.cps.getD 0 0 : Nat)) H) := by
  intro pins s σ H xs us Q I r h
  obtain ⟨x, rfl, hz, q⟩ := h
  obtain ⟨u, rfl, t, rfl⟩ := vals1 r
  exact ord_of_one hz ⟨.int _, H, I.tok _, ⟨_, rfl⟩, q⟩
theorem call_chr : CallR X (.builtin "chr") (fun xs H Q => ∃ i, xs = [.int i] ∧ 0 ≤ i ∧ i ≤ 1114111 ∧ Q (.str ⟨#[i.toNat]⟩) H) := by
  intro pins s σ H xs us Q I r h
  obtain ⟨i, rfl, h0, h1, q⟩ := h
  obtain ⟨u, rfl, t, rfl⟩ := vals1 r
  exact chr_of_range h0 h1 ⟨.str _, H, I.tok _, ⟨_, rfl⟩, q⟩
/-- len of a str, a bytes, a list, a tuple -/
def LenV (K : PySem.W.Frag) (x : V) (H : Hp) (n : Nat) : Prop :=
  match x with
  | .str y => y.length ≤ sizeLine ∧ n = y.length
  | .byt y => y.size ≤ sizeLine ∧ n = y.size
  | .ref p => (∃ xs, SqL K H p xs ∧ n = xs.length) ∨ ∃ xs, SqT K H p xs ∧ n = xs.length
  | _ => False
theorem call_len : CallR X (.builtin "len") (fun xs H Q => ∃ x n, xs = [x] ∧ LenV X.K x H n ∧ Q (.int n) H) := by
  intro pins s σ H xs us Q I r h
  obtain ⟨x, n, rfl, e, q⟩ := h
  obtain ⟨u, rfl, rx⟩ := vals1 r
  have hl := line63
  have hs : sizeLine = 16777216 := sizeLine_eq
  cases x with
  | str y =>
    obtain ⟨t, rfl⟩ := rx
    obtain ⟨hy, e'⟩ : y.length ≤ sizeLine ∧ n = y.length := e
    subst e'
    exact len_str (by omega) ⟨.int _, H, I.tok _, ⟨_, rfl⟩, q⟩
  | byt y =>
    obtain ⟨t, rfl⟩ := rx
    obtain ⟨hy, e'⟩ : y.size ≤ sizeLine ∧ n = y.size := e
    subst e'
    exact PySem.W.len_bytes (by omega) ⟨.int _, H, I.tok _, ⟨_, rfl⟩, q⟩
  | ref p =>
    cases rx
    have e' : (∃ xs, SqL X.K H p xs ∧ n = xs.length) ∨ ∃ xs, SqT X.K H p xs ∧ n = xs.length := e
    rcases e' with ⟨xs, hx, e'⟩ | ⟨xs, hx, e'⟩
    · subst e'
      obtain ⟨its, r', pl, hz⟩ := I.list hx
      have hlen := r'.length
      exact Calls.call_len_list pl.isList (by simp only [List.size_toArray]; omega) ⟨.int xs.length, H, I.tok _, ⟨_, by simp only [List.size_toArray]; rw [hlen]⟩, q⟩
    · subst e'
      obtain ⟨its, r', pl, hz⟩ := I.tuple hx
      have hlen := r'.length
      exact len_tuple pl (by simp only [List.size_toArray]; omega) ⟨.int xs.length, H, I.tok _, ⟨_, by simp only [List.size_toArray]; rw [hlen]⟩, q⟩
  | _ => exact (show False from e).elim
/-- divmod: a new tuple -/
theorem call_divmod : CallR X (.builtin "divmod") (fun xs H Q => ∃ i j, xs = [.int i, .int j] ∧ CDiv i j ∧ ∀ p, H p = none → Q (.ref p) (upd H p (.tup [.int (i / j), .int (i % j)]))) := by
  intro pins s σ H xs us Q I r h
  obtain ⟨i, j, rfl, ⟨h1, h2⟩, q⟩ := h
  obtain ⟨u, w', rfl, ⟨t, rfl⟩, ⟨t', rfl⟩⟩ := vals2 r
  refine divmod_int (by omega) ?_ (.inl (PyProof.noPylong_small (by omega)))
  rw [Int.fdiv_eq_ediv_of_nonneg i (by omega), Int.fmod_eq_emod_of_nonneg i (by omega)]
  have hn : H s.heap.objs.size = none := I.hok.fresh (Nat.le_refl _)
  refine ⟨.ref s.heap.objs.size, _, ?_, rfl, q _ hn⟩
  refine I.laid (fun b o e => Heap.get?_push_of_some _ e) (Nat.le_refl _) ⟨by simp only [List.length_cons, List.length_nil]; rw [sizeLine_eq]; decide, [.int (i / j) s.toks, .int (i % j) (s.toks + 1)], .cons ⟨_, rfl⟩ (.cons ⟨_, rfl⟩ .nil), ?_⟩
  exact ⟨_, Heap.get?_push_size s.heap rfl, rfl, 0, rfl⟩
end
end L2

namespace L2
open PySem PySem.Spec PyProof.Rows

/-! ### an instance, its attributes a map -/
structure ObjM (h : Heap) (x dx C : Addr) (mA : Str → Option Value) : Prop where
  obj : h.get? x = some (PySem.W.instObj C dx)
  ns : h.Ns1 dx mA
  ne : dx ≠ x

theorem lookIn_ns {h : Heap} {dx : Addr} {mA : Str → Option Value} (n : h.Ns1 dx mA) : ∃ od, h.get? dx = some od ∧ ∀ name, PySem.W.lookIn name od = some (mA name) := by
  obtain ⟨o, es, ep, ho, hd, hk, _, hm⟩ := n
  refine ⟨o, ho, fun name => ?_⟩
  have e := hm name
  unfold nsFind findBy at e
  rw [← Array.find?_toList] at e
  unfold PySem.W.lookIn
  rw [hd]
  dsimp only
  split
  · rename_i y q
    rw [q] at e
    exact congrArg some e
  · rename_i q
    rw [q] at e
    have a : es.toList.any (·.refKey) = false := by
      rw [List.any_eq_false]
      intro y hy
      obtain ⟨z, t, hkey⟩ := hk y (Array.mem_toList_iff.mp hy)
      simp [DictEntry.refKey, hkey]
    have a' : ¬ es.toList.any (·.refKey) = true := by rw [a]; exact Bool.false_ne_true
    rw [if_neg a']
    exact congrArg some e

theorem ObjM.look {h : Heap} {x dx C : Addr} {mA : Str → Option Value} (I : ObjM h x dx C mA) : ∃ od, PySem.W.InstAt h x (PySem.W.instObj C dx) C (some od) ∧ ∀ name, PySem.W.lookIn name od = some (mA name) :=
  let ⟨od, ho, hl⟩ := lookIn_ns I.ns
  ⟨od, ⟨I.obj, rfl, rfl, ho⟩, hl⟩

section
variable {prog : Program} {w : World} {A : Around} {E : Value → Shared → Prop} {s : Shared} {K : PySem.W.Frag} {x dx C f : Addr} {mA : Str → Option Value} {name : Str} {v : Value}

theorem get_map {expr : Bool} {Q : Value → Shared → Prop} (X : K.In s.heap) (I : ObjM s.heap x dx C mA) (hg : PySem.W.plainGet K C name = true) (hh : PySem.W.hasDictIn K C = true)
    (ha : PySem.W.findIn K (.ref C) name = some none) (hv : mA name = some v) (hv' : PySem.W.handedIn v = true) (h : Q v { s with toks := s.toks + 1 }) :
    wpAny (model prog w) A (getAttr (.ref x) name expr) Q E s := by
  obtain ⟨od, J, hl⟩ := I.look
  exact PySem.W.get_value X J (PySem.W.plainGet_of hg).1 (PySem.W.findObj_own hh ha rfl (by rw [hl, hv])) hv' h

theorem get_const {expr : Bool} {a : Value} {Q : Value → Shared → Prop} (X : K.In s.heap) (I : ObjM s.heap x dx C mA) (hg : PySem.W.plainGet K C name = true) (hh : PySem.W.hasDictIn K C = true)
    (ha : PySem.W.findIn K (.ref C) name = some (some a)) (hn : PySem.W.specialIn K a "__get__" = some none) (hc : PySem.W.copiedNames.contains name = false) (hv : mA name = none) (hv' : PySem.W.handedIn a = true)
    (h : Q a { s with toks := s.toks + 1 }) : wpAny (model prog w) A (getAttr (.ref x) name expr) Q E s := by
  obtain ⟨od, J, hl⟩ := I.look
  exact PySem.W.get_value X J (PySem.W.plainGet_of hg).1 (PySem.W.findObj_cls hh ha hn hv' hc (by rw [hl, hv])) hv' h

theorem get_meth {pl : Sem Bool} {Q : Value × List Value → Shared → Prop} (X : K.In s.heap) (I : ObjM s.heap x dx C mA) (hg : PySem.W.plainGet K C name = true)
    (hf : PySem.W.findIn K (.ref C) name = some (some (.ref f))) (ht : PySem.W.isFn K (.ref f) = true) (hv : mA name = none) (h : Q (.ref f, [.ref x]) s) :
    wpAny (model prog w) A (getMethod (.ref x) name pl) Q E s := by
  obtain ⟨od, J, hl⟩ := I.look
  exact PySem.W.method_fn X J (PySem.W.plainGet_of hg).1 (PySem.W.plainGet_of hg).2 hf (beq_iff_eq.mp ht) (by show (PySem.W.lookIn name od).map (·.isSome) = some false; rw [hl, hv]; rfl) h

theorem set_map {ns : List Str} {Q : Unit → Shared → Prop} (X : K.In s.heap) (I : ObjM s.heap x dx C mA)
    (hs : PySem.W.findIn K (.ref C) "__setattr__" = some (some (.builtin "object.__setattr__"))) (hp : PySem.W.plainOver K C = true) (ht : PySem.W.takerIn K C name = some none) (hh : PySem.W.hasDictIn K C = true)
    (hw : PySem.Within mA ns) (hsz : ns.length ≤ sizeLine)
    (h : ∀ h', ObjM h' x dx C (fun y => if y = name then some v else mA y) → Heap.SameBut dx s.heap h' → Q () { s with heap := h', toks := s.toks + 2 }) :
    wpAny (model prog w) A (setAttr (.ref x) name v) Q E s := by
  obtain ⟨od, J, hl⟩ := I.look
  refine PySem.W.set_plain X J hs (PySem.W.osa_open (s := { s with toks := s.toks + 1 }) (r := none) X J hp ht fun b => ?_)
  obtain ⟨cd, hc, hd'⟩ := PySem.W.any_some hh
  have hx : s.heap.get? x = some ⟨.ref C, some dx, .plain, #[]⟩ := I.obj
  refine wpAny_bind (wpAny_pure (wpAny_bind (wpAny_bind (wpAny_loadPart hx (wpAny_bind (PySem.W.Looks.here (s := { s with toks := s.toks + 1 }) (PySem.W.looks_clsIn X hc) ?_))))))
  rw [hd']
  refine wpAny_pure (a := some dx) (wpAny_bind (wpAny_pure (wpAny_bind ?_)))
  refine wpAny_nsSet1 (s := { s with toks := s.toks + 1 }) I.ns fun h' hn2 hs2 => ?_
  obtain ⟨oD, esD, epD, hoD, hdD, hcD⟩ := hn2.count (PySem.Within.cons name v hw)
  refine wpAny_bind (wpAny_lookBehind hoD (by rw [hdD]; exact pastItsLine_dict (Nat.le_trans hcD (by rw [List.length_cons]; omega))) ?_)
  exact wpAny_pure (h _ ⟨(hs2.2 _ (Ne.symm I.ne)).trans I.obj, hn2, I.ne⟩ hs2)

/-- C(..): the dict at the heap's end, the instance behind it; then its __init__ -/
theorem make_map {R : Result → Shared → Prop} {vs : List Value} {kw : List (Str × Value)} (X : K.In s.heap) (hm : PySem.W.makesIn K C = true)
    (hi : PySem.W.findIn K (.ref C) "__init__" = some (some (.ref f))) (hf : PySem.W.typeIn K (.ref f) = some (.type "function"))
    (h : codeAny (model prog w) (A.under (.builtin "type.__call__" ⟨.ref C :: vs, kw⟩)) (.call (.ref f) ⟨.ref (s.heap.objs.size + 1) :: vs, kw⟩) (PySem.W.InitBack (s.heap.objs.size + 1) R)
      { s with heap := (s.heap.push PySem.W.emptyDict).push (PySem.W.instObj C s.heap.objs.size) }) :
    codeAny (model prog w) A (.call (.ref C) ⟨vs, kw⟩) R s := by
  obtain ⟨hh, g, d, t, os⟩ := s
  exact PySem.W.make_core (PySem.W.makes_of X hm) (PySem.W.looks_findIn X hi) (fun self => PySem.W.bind_fn X self hf) (.inl rfl) h
/-- C() where there is no __init__ but object's -/
theorem make_map0 {R : Result → Shared → Prop} (X : K.In s.heap) (hm : PySem.W.makesIn K C = true)
    (hi : PySem.W.findIn K (.ref C) "__init__" = some (some (.builtin "object.__init__")))
    (hb : ∀ self, PySem.W.Looks (model prog w) s.heap (bindSpecial (.builtin "object.__init__") self) (.builtin "object.__init__", [self]))
    (h : codeAny (model prog w) (A.under (.builtin "type.__call__" ⟨[.ref C], []⟩)) (.call (.builtin "object.__init__") ⟨[.ref (s.heap.objs.size + 1)], []⟩) (PySem.W.InitBack (s.heap.objs.size + 1) R)
      { s with heap := (s.heap.push PySem.W.emptyDict).push (PySem.W.instObj C s.heap.objs.size) }) :
    codeAny (model prog w) A (.call (.ref C) ⟨[], []⟩) R s := by
  obtain ⟨hh, g, d, t, os⟩ := s
  exact PySem.W.make_core (PySem.W.makes_of X hm) (PySem.W.looks_findIn X hi) hb (.inr ⟨rfl, rfl⟩) h
end

/-! ### the attributes as a list of pairs -/
def putF (f : Str) (v : V) : List (Str × V) → List (Str × V)
  | [] => [(f, v)]
  | (g, x) :: r => if g = f then (g, v) :: r else (g, x) :: putF f v r
theorem lookup_putF (f g : Str) (v : V) : ∀ fs : List (Str × V), (putF f v fs).lookup g = if g = f then some v else fs.lookup g
  | [] => by
    show List.lookup g [(f, v)] = _
    by_cases h : g = f
    · have hb : (g == f) = true := beq_iff_eq.mpr h
      simp only [List.lookup, hb, if_pos h]
    · have hb : (g == f) = false := beq_eq_false_iff_ne.mpr h
      simp only [List.lookup, hb, if_neg h]
  | (k, x) :: r => by
    have ih := lookup_putF f g v r
    rw [show putF f v ((k, x) :: r) = (if k = f then (k, v) :: r else (k, x) :: putF f v r) from rfl]
    by_cases hk : k = f
    · rw [if_pos hk]
      by_cases h : g = k
      · have hb : (g == k) = true := beq_iff_eq.mpr h
        simp only [List.lookup, hb, if_pos (h.trans hk)]
      · have hb : (g == k) = false := beq_eq_false_iff_ne.mpr h
        simp only [List.lookup, hb, if_neg (fun e : g = f => h (e.trans hk.symm))]
    · rw [if_neg hk]
      by_cases h : g = k
      · have hb : (g == k) = true := beq_iff_eq.mpr h
        simp only [List.lookup, hb, if_neg (fun e : g = f => hk (h.symm.trans e))]
      · have hb : (g == k) = false := beq_eq_false_iff_ne.mpr h
        simp only [List.lookup, hb]
        exact ih
theorem keys_putF (f : Str) (v : V) : ∀ fs : List (Str × V), f ∈ (putF f v fs).map (·.1) ∧ ∀ g, g ∈ fs.map (·.1) → g ∈ (putF f v fs).map (·.1)
  | [] => ⟨by simp [putF], fun g h => by simp at h⟩
  | (k, x) :: r => by
    obtain ⟨i1, i2⟩ := keys_putF f v r
    rw [show putF f v ((k, x) :: r) = (if k = f then (k, v) :: r else (k, x) :: putF f v r) from rfl]
    by_cases hk : k = f
    · rw [if_pos hk]
      subst hk
      exact ⟨by simp, fun g h => by simpa using h⟩
    · rw [if_neg hk]
      refine ⟨?_, fun g h => ?_⟩
      · rw [List.map_cons]
        exact List.mem_cons_of_mem _ i1
      · rw [List.map_cons] at h ⊢
        rcases List.mem_cons.mp h with e | e
        · exact List.mem_cons.mpr (.inl e)
        · exact List.mem_cons_of_mem _ (i2 g e)
theorem length_putF (f : Str) (v : V) : ∀ fs : List (Str × V), (putF f v fs).length ≤ fs.length + 1
  | [] => by simp [putF]
  | (k, x) :: r => by
    have ih := length_putF f v r
    rw [show putF f v ((k, x) :: r) = (if k = f then (k, v) :: r else (k, x) :: putF f v r) from rfl]
    by_cases hk : k = f
    · rw [if_pos hk, List.length_cons, List.length_cons]; omega
    · rw [if_neg hk, List.length_cons, List.length_cons]; omega

theorem RelO.some_of {v : V} {o : Option Value} (r : RelO (some v) o) : ∃ u, o = some u ∧ RelV v u := by
  cases o with
  | none => exact (show False from r).elim
  | some u => exact ⟨u, rfl, r⟩
theorem RelO.none_of {o : Option Value} (r : RelO none o) : o = none := by
  cases o with
  | none => rfl
  | some u => exact (show False from r).elim
theorem handed_of {v : V} {u : Value} (r : RelV v u) : PySem.W.handedIn u = true := by
  cases v with
  | non => cases (show u = Value.none from r); rfl
  | bl b => cases (show u = Value.bool b from r); rfl
  | int i => obtain ⟨t, e⟩ := (show ∃ t, u = Value.int i t from r); cases e; rfl
  | str x => obtain ⟨t, e⟩ := (show ∃ t, u = Value.str x t from r); cases e; rfl
  | byt b => obtain ⟨t, e⟩ := (show ∃ t, u = Value.bytes b t from r); cases e; rfl
  | flt b => obtain ⟨t, e⟩ := (show ∃ t, u = Value.float b t from r); cases e; rfl
  | ref a => cases (show u = Value.ref a from r); rfl
  | ty n => cases (show u = Value.type n from r); rfl

section
variable {P : Program} {w : World} {H H' : Hp} {h h' : Heap} {a C dx : Addr} {fs fs' : List (Str × V)}
theorem ins_get (hok : HOk P w H h) (e : H a = some (.ins C dx fs)) : ∃ mA, ObjM h a dx C mA ∧ (∀ f, RelO (fs.lookup f) (mA f)) ∧ PySem.Within mA (fs.map (·.1)) ∧ fs.length ≤ 1000 ∧ H dx = some (.own a) := by
  obtain ⟨d, z, ne, ob, mA, n, r, q⟩ := (show ObjOk P w H h a (.ins C dx fs) from hok a _ e)
  exact ⟨mA, ⟨ob, n, ne⟩, r, q, z, d⟩
end

/-! ### what of the text a class must have -/
structure Cls (K : PySem.W.Frag) (C : Addr) : Prop where
  pg : PySem.W.plainGet K C Str.empty = true
  hd : PySem.W.hasDictIn K C = true
  po : PySem.W.plainOver K C = true
  sa : PySem.W.findIn K (.ref C) "__setattr__" = some (some (.builtin "object.__setattr__"))
theorem Cls.get {K : PySem.W.Frag} {C : Addr} (c : Cls K C) (f : Str) : PySem.W.plainGet K C f = true := c.pg
/-- no class of it has the name -/
def NoAttr (K : PySem.W.Frag) (C : Addr) (f : Str) : Prop := PySem.W.findIn K (.ref C) f = some none
theorem NoAttr.taker {K : PySem.W.Frag} {C : Addr} {f : Str} (n : NoAttr K C f) : PySem.W.takerIn K C f = some none := by
  unfold PySem.W.takerIn
  rw [show PySem.W.findIn K (.ref C) f = some none from n]
  rfl
/-- a constant of the class -/
structure Con (K : PySem.W.Frag) (C : Addr) (f : Str) (v : V) (u : Value) : Prop where
  at_ : PySem.W.findIn K (.ref C) f = some (some u)
  rel : RelV v u
  get : PySem.W.specialIn K u "__get__" = some none
  cp : PySem.W.copiedNames.contains f = false
/-- a method: a plain def of the class or of one above it -/
structure Meth (K : PySem.W.Frag) (C : Addr) (m : Str) (f : Addr) : Prop where
  at_ : PySem.W.findIn K (.ref C) m = some (some (.ref f))
  fn : PySem.W.isFn K (.ref f) = true
  kp : PySem.W.keepIn K (.ref f) = true

section
variable {X : Cx} {pins : List (Addr × Obj)} {σ : St} {H : Hp} {s : Shared} {a C dx : Addr} {fs : List (Str × V)} {f : Str} {v : V} {A : Around} {E : Value → Shared → Prop}

theorem getattr_ok {b : Bool} {Q : Value → Shared → Prop} (I : Inv X pins σ H s) (e : H a = some (.ins C dx fs)) (c : Cls X.K C) (n : NoAttr X.K C f) (l : fs.lookup f = some v)
    (h : ∀ u s', Inv X pins σ H s' → RelV v u → Q u s') : wpAny (model X.prog X.w) A (getAttr (.ref a) f b) Q E s := by
  obtain ⟨mA, O, r, _, _, _⟩ := ins_get I.hok e
  obtain ⟨u, hu, ru⟩ := RelO.some_of (v := v) (o := mA f) (by rw [← l]; exact r f)
  exact get_map I.kIn O (c.get f) c.hd n hu (handed_of ru) (h u _ (I.tok _) ru)

theorem getcon_ok {b : Bool} {u : Value} {Q : Value → Shared → Prop} (I : Inv X pins σ H s) (e : H a = some (.ins C dx fs)) (c : Cls X.K C) (k : Con X.K C f v u) (l : fs.lookup f = none)
    (h : ∀ s', Inv X pins σ H s' → Q u s') : wpAny (model X.prog X.w) A (getAttr (.ref a) f b) Q E s := by
  obtain ⟨mA, O, r, _, _, _⟩ := ins_get I.hok e
  have hn : mA f = none := RelO.none_of (by rw [← l]; exact r f)
  exact get_const I.kIn O (c.get f) c.hd k.at_ k.get k.cp hn (handed_of k.rel) (h _ (I.tok _))

theorem getmeth_ok {m : Str} {g : Addr} {pl : Sem Bool} {Q : Value × List Value → Shared → Prop} (I : Inv X pins σ H s) (e : H a = some (.ins C dx fs)) (c : Cls X.K C) (k : Meth X.K C m g) (l : fs.lookup m = none)
    (h : Q (.ref g, [.ref a]) s) : wpAny (model X.prog X.w) A (getMethod (.ref a) m pl) Q E s := by
  obtain ⟨mA, O, r, _, _, _⟩ := ins_get I.hok e
  have hn : mA m = none := RelO.none_of (by rw [← l]; exact r m)
  exact get_meth I.kIn O (c.get m) k.at_ k.fn hn h

theorem setattr_ok {y : V} {u : Value} {Q : Unit → Shared → Prop} (I : Inv X pins σ H s) (e : H a = some (.ins C dx fs)) (c : Cls X.K C) (n : NoAttr X.K C f) (hl : fs.length < 1000) (ry : RelV y u)
    (h : ∀ s', Inv X pins σ (upd H a (.ins C dx (putF f y fs))) s' → Q () s') : wpAny (model X.prog X.w) A (setAttr (.ref a) f u) Q E s := by
  obtain ⟨mA, O, r, wi, _, ho⟩ := ins_get I.hok e
  have hz : (fs.map (·.1)).length ≤ sizeLine := by rw [List.length_map, sizeLine_eq]; omega
  refine set_map I.kIn O c.sa c.po n.taker c.hd wi hz fun h' O' sb => h _ ?_
  have hd : ∃ o, h'.get? dx = some o := let ⟨o, _, _, e', _⟩ := O'.ns; ⟨o, e'⟩
  refine I.write (x := a) (e := dx) (by rw [e]; exact True.intro) (.inr ho) (fun b q hb z => (sb.2 b hb).trans z) hd ?_
  refine ⟨by rw [upd_ne O.ne]; exact ho, ?_, O.ne, O'.obj, _, O'.ns, fun g => ?_, fun g hg => ?_⟩
  · have := length_putF f y fs; omega
  · show RelO ((putF f y fs).lookup g) (if g = f then some u else mA g)
    rw [lookup_putF]
    by_cases q : g = f
    · rw [if_pos q, if_pos q]; exact ry
    · rw [if_neg q, if_neg q]; exact r g
  · by_cases q : g = f
    · rw [q]; exact (keys_putF f y fs).1
    · refine (keys_putF f y fs).2 g (wi g fun z => hg ?_)
      show (if g = f then some u else mA g) = none
      rw [if_neg q]; exact z

/-- a new instance, tracked, without attributes -/
theorem Inv.made (I : Inv X pins σ H s) : Inv X pins σ (upd (upd H s.heap.objs.size (.own (s.heap.objs.size + 1))) (s.heap.objs.size + 1) (.ins C s.heap.objs.size []))
    { s with heap := (s.heap.push PySem.W.emptyDict).push (PySem.W.instObj C s.heap.objs.size) } := by
  have e1 : (s.heap.push PySem.W.emptyDict).get? s.heap.objs.size = some PySem.W.emptyDict := Heap.get?_push_size s.heap rfl
  have e2 : ((s.heap.push PySem.W.emptyDict).push (PySem.W.instObj C s.heap.objs.size)).get? (s.heap.objs.size + 1) = some (PySem.W.instObj C s.heap.objs.size) := by
    have := Heap.get?_push_size (s.heap.push PySem.W.emptyDict) (o := PySem.W.instObj C s.heap.objs.size) rfl
    rwa [Heap.size_push] at this
  have e3 : (s.heap.push PySem.W.emptyDict).Ns s.heap.objs.size (fun _ => none) := ⟨PySem.W.emptyDict, #[], _, e1, rfl, (fun e he => absurd he (by simp)), fun _ => rfl⟩
  have I1 := I.laid (a := s.heap.objs.size) (o := .own (s.heap.objs.size + 1)) (h' := s.heap.push PySem.W.emptyDict) (t' := s.toks) (fun b u q => Heap.get?_push_of_some _ q) (Nat.le_refl _) ⟨_, e1⟩
  refine I1.laid (a := s.heap.objs.size + 1) (o := .ins C s.heap.objs.size []) (t' := s.toks) (fun b u q => Heap.get?_push_of_some _ q) (Nat.le_of_eq (Heap.size_push _ _)) ?_
  have ne : s.heap.objs.size ≠ s.heap.objs.size + 1 := Nat.ne_of_lt (Nat.lt_succ_self _)
  refine ⟨by rw [upd_ne ne, upd_same], Nat.zero_le _, ne, e2, fun _ => none, (Heap.Ns1.of_empty e3).at fun o q => Heap.get?_push_of_some _ q, fun _ => True.intro, fun y hy => absurd rfl hy⟩

/-- e.f where nothing but the object is asked: through attributeBase (super) and the last hold -/
theorem attr_of {prog : Program} {w : World} {env : Env} {e : Expr} {f : Str} {pos : Pos} {s : Shared} {Q : Value → Shared → Prop} (hb : attributeBase e f env (eval e env) = eval e env)
    (h : wpAny (model prog w) A (eval e env) (fun o s₁ => wpAny (model prog w) A (getAttr o f true) Q E s₁) E s) : wpAny (model prog w) A (eval (.Attribute e f pos) env) Q E s :=
  Attribute_any_ h (by rw [arm_eval_Attribute, hb])
end

/-! ### readings and rules -/
/-- e.f, an attribute of the instance -/
def tFld (K : PySem.W.Frag) (ta : TE) (f : Str) : TE := fun σ H Q => ta σ H fun x H1 => ∃ a C dx fs v, x = .ref a ∧ H1 a = some (.ins C dx fs) ∧ Cls K C ∧ NoAttr K C f ∧ fs.lookup f = some v ∧ Q v H1
/-- e.f, a constant of the class -/
def tCon (K : PySem.W.Frag) (ta : TE) (f : Str) : TE := fun σ H Q => ta σ H fun x H1 => ∃ a C dx fs v u, x = .ref a ∧ H1 a = some (.ins C dx fs) ∧ Cls K C ∧ Con K C f v u ∧ fs.lookup f = none ∧ Q v H1
/-- e.f = value -/
def sFld (K : PySem.W.Frag) (ta tv : TE) (f : Str) : TS := fun D σ H => tv σ H fun y H1 => ta σ H1 fun x H2 => ∃ a C dx fs, x = .ref a ∧ H2 a = some (.ins C dx fs) ∧ Cls K C ∧ NoAttr K C f ∧ fs.length < 1000 ∧
  D.nx σ (upd H2 a (.ins C dx (putF f y fs)))
/-- an augmented operator on two values -/
def InOp (X : Cx) (op : Operator) (rd : V → V → Hp → VK → Prop) : Prop :=
  ∀ (pins : List (Addr × Obj)) (s : Shared) (σ : St) (H : Hp) (x y : V) (u v : Value) (Q : VK), Inv X pins σ H s → RelV x u → RelV y v → rd x y H Q → wpAny (model X.prog X.w) X.A (inplaceOp op u v) (EP X pins σ Q) X.xe s
/-- e.f op= value -/
def sFldAug (K : PySem.W.Frag) (ta tv : TE) (rd : V → V → Hp → VK → Prop) (f : Str) : TS := fun D σ H => ta σ H fun x H1 => ∃ a C dx fs v, x = .ref a ∧ H1 a = some (.ins C dx fs) ∧ Cls K C ∧ NoAttr K C f ∧ fs.lookup f = some v ∧
  tv σ H1 fun y H2 => rd v y H2 fun z H3 => ∃ dx' fs', H3 a = some (.ins C dx' fs') ∧ fs'.length < 1000 ∧ D.nx σ (upd H3 a (.ins C dx' (putF f z fs')))

section
variable {X : Cx} {o e value : Expr} {f : Str} {pos pos' tpos : Pos} {ta tv : TE}
theorem pe_fld (he : PE X e ta) (hb : attributeBase e f X.env (eval e X.env) = eval e X.env) : PE X (.Attribute e f pos) (tFld X.K ta f) := by
  intro pins s σ H Q I h
  refine attr_of hb (thn (he pins s σ H _ I h) fun u s1 ⟨x, H1, I1, rx, a, C, dx, fs, v, ex, ea, c, n, l, q⟩ => ?_)
  subst ex
  obtain rfl : u = Value.ref a := rx
  exact getattr_ok I1 ea c n l fun u' s2 I2 ru => ⟨v, H1, I2, ru, q⟩
theorem pe_con (he : PE X e ta) (hb : attributeBase e f X.env (eval e X.env) = eval e X.env) : PE X (.Attribute e f pos) (tCon X.K ta f) := by
  intro pins s σ H Q I h
  refine attr_of hb (thn (he pins s σ H _ I h) fun u s1 ⟨x, H1, I1, rx, a, C, dx, fs, v, u0, ex, ea, c, k, l, q⟩ => ?_)
  subst ex
  obtain rfl : u = Value.ref a := rx
  exact getcon_ok I1 ea c k l fun s2 I2 => ⟨v, H1, I2, k.rel, q⟩
theorem ps_fld (ha : PE X o ta) (hv : PE X value tv) (hs : swapsWith value (some (.Attribute o f pos')) pos.line X.env = pure false) : PS X (.Assign [.Attribute o f pos'] value pos) (sFld X.K ta tv f) := by
  intro pins s σ H D I h
  refine plainObj_wpAny_Assign_Attribute (thn (hv pins s σ H _ I h) fun u s1 ⟨y, H1, I1, ry, q⟩ => thn (ha pins s1 σ H1 _ I1 q) fun ov s2 ⟨x, H2, I2, rx, a, C, dx, fs, ex, ea, c, n, l, q2⟩ => ?_) hs
  subst ex
  obtain rfl : ov = Value.ref a := rx
  exact setattr_ok I2 ea c n l ry fun s3 I3 => ⟨σ, _, I3, q2⟩
theorem ps_fldaug {op : Operator} {rd : V → V → Hp → VK → Prop} (ha : PE X o ta) (hv : PE X value tv) (hop : InOp X op rd) : PS X (.AugAssign (.Attribute o f tpos) op value pos) (sFldAug X.K ta tv rd f) := by
  intro pins s σ H D I h
  refine wpAny_AugAssign_AttributeAny (thn (ha pins s σ H _ I h) fun ov s1 ⟨x, H1, I1, rx, a, C, dx, fs, v, ex, ea, c, n, l, q⟩ => ?_)
  subst ex
  obtain rfl : ov = Value.ref a := rx
  refine getattr_ok I1 ea c n l fun u s2 I2 ru => thn (hv pins s2 σ H1 _ I2 q) fun w3 s3 ⟨y, H2, I3, ry, q3⟩ => thn (hop pins s3 σ H2 v y u w3 _ I3 ru ry q3) fun w4 s4 ⟨z, H3, I4, rz, dx', fs', ea', l', q4⟩ => ?_
  exact setattr_ok I4 ea' c n l' rz fun s5 I5 => ⟨σ, _, I5, q4⟩
def rAdd : V → V → Hp → VK → Prop := fun x y H Q => ∃ i j, x = .int i ∧ y = .int j ∧ Q (.int (i + j)) H
def rSub : V → V → Hp → VK → Prop := fun x y H Q => ∃ i j, x = .int i ∧ y = .int j ∧ Q (.int (i - j)) H
theorem in_add : InOp X .Add rAdd := by
  rintro pins s σ H x y u v Q I rx ry ⟨i, j, rfl, rfl, q⟩
  obtain ⟨t, rfl⟩ := (show ∃ t, u = Value.int i t from rx)
  obtain ⟨t', rfl⟩ := (show ∃ t', v = Value.int j t' from ry)
  exact PyProof.Rows.iadd_int ⟨.int (i + j), H, I.tok _, ⟨_, rfl⟩, q⟩
theorem in_sub : InOp X .Sub rSub := by
  rintro pins s σ H x y u v Q I rx ry ⟨i, j, rfl, rfl, q⟩
  obtain ⟨t, rfl⟩ := (show ∃ t, u = Value.int i t from rx)
  obtain ⟨t', rfl⟩ := (show ∃ t', v = Value.int j t' from ry)
  exact PyProof.Rows.isub_int ⟨.int (i - j), H, I.tok _, ⟨_, rfl⟩, q⟩

/-- what is between an instance and its method: the tree of a method call -/
theorem methcall_of {pl : Sem Bool} {m : Str} {apos : Pos} {args : List Expr} {pins : List (Addr × Obj)} {s : Shared} {σ : St} {H : Hp} {Q : Value → Shared → Prop} {te : TE} (he : PE X e te) (I : Inv X pins σ H s)
    (h : te σ H fun x H1 => ∃ a C dx fs g, x = .ref a ∧ H1 a = some (.ins C dx fs) ∧ Cls X.K C ∧ Meth X.K C m g ∧ fs.lookup m = none ∧
      ∀ s1, Inv X pins σ H1 s1 → wpAny (model X.prog X.w) X.A (callWith pos (.ref g) [.ref a] (backTo pos (starEach args X.env)) (backToKw pos (keywordEach [] X.env))) Q X.xe s1)
    (ht : eval (.Call (.Attribute e m apos) args [] pos) X.env = (do
      let ov ← eval e X.env
      standAt apos.atName
      let (f, first) ← holding [ov] (getMethod ov m pl)
      callWith pos f first (backTo pos (starEach args X.env)) (backToKw pos (keywordEach [] X.env)))) :
    wpAny (model X.prog X.w) X.A (eval (.Call (.Attribute e m apos) args [] pos) X.env) Q X.xe s := by
  refine PySem.W.methodCall_KW (pl := pl) (thn (he pins s σ H _ I h) fun u s1 ⟨x, H1, I1, rx, a, C, dx, fs, g, ex, ea, c, k, l, q⟩ => ?_) ht
  subst ex
  obtain rfl : u = Value.ref a := rx
  exact getmeth_ok I1 ea c k l (q s1 I1)
end

/-! ### isinstance -/
section
variable {X : Cx} {pins : List (Addr × Obj)} {σ : St} {H : Hp} {s : Shared} {A : Around} {E : Value → Shared → Prop} {Q : Value → Shared → Prop} {c : Value} {b : Bool}
/-- the type of a value, as the fragment's deciders take it; for an instance its class -/
inductive TyOf (K : PySem.W.Frag) (H : Hp) : V → Value → Prop where
  | non : TyOf K H .non (.type "NoneType")
  | bl (x : Bool) : TyOf K H (.bl x) (.type "bool")
  | int (i : Int) : TyOf K H (.int i) (.type "int")
  | str (x : Str) : TyOf K H (.str x) (.type "str")
  | flt (x : UInt64) : TyOf K H (.flt x) (.type "float")
  | lst {a : Addr} {xs : List V} (e : H a = some (.lst xs)) : TyOf K H (.ref a) (.type "list")
  | frz {a : Addr} {o : Obj} {xs : List V} (e : H a = some (.frz o (.lst xs))) : TyOf K H (.ref a) (.type "list")
  | tup {a : Addr} {xs : List V} (e : H a = some (.tup xs)) : TyOf K H (.ref a) (.type "tuple")
  | dK {a : Addr} {kvs : List (Key × V)} (e : H a = some (.dK kvs)) : TyOf K H (.ref a) (.type "dict")
  | dT {a : Addr} {kvs : List (List Key × V)} (e : H a = some (.dT kvs)) : TyOf K H (.ref a) (.type "dict")
  | ins {a C dx : Addr} {fs : List (Str × V)} (e : H a = some (.ins C dx fs)) (cl : Cls K C) (ha : PySem.W.findIn K (.ref C) "__class__" = some (some (.builtin "object.__class__")))
      (hn : PySem.W.specialIn K (.builtin "object.__class__") "__get__" = some (some (.builtin "getset_descriptor.__get__"))) (htk : PySem.W.takesIn K (.builtin "object.__class__") = some true)
      (hm : PySem.W.mroIn K C (.type "object") = some true) : TyOf K H (.ref a) (.ref C)
/-- isinstance(x, c) for one class c, a built-in or an own one: kitOne's answer -/
theorem isinst_ok {x : V} {u t : Value} (I : Inv X pins σ H s) (rx : RelV x u) (ty : TyOf X.K H x t) (e : PySem.W.kitOne X.K t c = some b) (h : ∀ tk, Q (.bool b) { s with toks := tk }) :
    wpAny (model X.prog X.w) A (call (.builtin "isinstance") [u, c]) Q E s := by
  cases ty with
  | non => cases (show u = Value.none from rx); exact PySem.W.kia_one PySem.W.kitx_none I.kIn True.intro e (fun z => nomatch z) h
  | bl y => cases (show u = Value.bool y from rx); exact PySem.W.kia_one PySem.W.kitx_bool I.kIn True.intro e (fun z => nomatch z) h
  | int i => obtain ⟨t, q⟩ := (show ∃ t, u = Value.int i t from rx); cases q; exact PySem.W.kia_one PySem.W.kitx_int I.kIn True.intro e (fun z => nomatch z) h
  | str y => obtain ⟨t, q⟩ := (show ∃ t, u = Value.str y t from rx); cases q; exact PySem.W.kia_one PySem.W.kitx_str I.kIn True.intro e (fun z => nomatch z) h
  | flt y => obtain ⟨t, q⟩ := (show ∃ t, u = Value.float y t from rx); cases q; exact PySem.W.kia_one PySem.W.kitx_float I.kIn True.intro e (fun z => nomatch z) h
  | @lst a xs ea =>
    cases (show u = Value.ref a from rx)
    obtain ⟨_, _, n, _, h1⟩ := (show ObjOk X.prog X.w H s.heap a (.lst xs) from I.hok a _ ea)
    exact PySem.W.kia_one PySem.W.kitx_list I.kIn ⟨_, h1, rfl⟩ e (fun z => nomatch z) h
  | @frz a ob xs ea =>
    cases (show u = Value.ref a from rx)
    obtain ⟨_, _, _, n, _, h1⟩ := (show ObjOk X.prog X.w H s.heap a (.frz ob (.lst xs)) from I.hok a _ ea)
    exact PySem.W.kia_one PySem.W.kitx_list I.kIn ⟨_, h1, rfl⟩ e (fun z => nomatch z) h
  | @tup a xs ea =>
    cases (show u = Value.ref a from rx)
    obtain ⟨_, _, _, p⟩ := (show ObjOk X.prog X.w H s.heap a (.tup xs) from I.hok a _ ea)
    obtain ⟨o, h1, h2, _⟩ := p
    exact PySem.W.kia_one PySem.W.kitx_tuple I.kIn ⟨o, h1, h2⟩ e (fun z => nomatch z) h
  | @dK a kvs ea =>
    cases (show u = Value.ref a from rx)
    obtain ⟨_, _, vs, _, p⟩ := (show ObjOk X.prog X.w H s.heap a (.dK kvs) from I.hok a _ ea)
    obtain ⟨o, es, ep, h1, h2, _⟩ := p
    exact PySem.W.kia_one PySem.W.kitx_dict I.kIn ⟨o, h1, h2.1⟩ e (fun z => nomatch z) h
  | @dT a kvs ea =>
    cases (show u = Value.ref a from rx)
    obtain ⟨_, _, xs, _, o, es, ep, h1, h2, _⟩ := (show ObjOk X.prog X.w H s.heap a (.dT kvs) from I.hok a _ ea)
    exact PySem.W.kia_one PySem.W.kitx_dict I.kIn ⟨o, h1, h2.1⟩ e (fun z => nomatch z) h
  | @ins a C dx fs ea cl ha hn htk hm =>
    cases (show u = Value.ref a from rx)
    obtain ⟨mA, O, _⟩ := ins_get I.hok ea
    obtain ⟨od, J, _⟩ := O.look
    exact PySem.W.kia_one (PySem.W.kitx_own (cl.get _) cl.hd ha hn htk hm) I.kIn J e (fun z => nomatch z) h
end
end L2

namespace L2
open PySem PySem.Spec PyProof.Rows

/-! ### room -/
structure Room (k : Nat) (A : Around) : Prop where
  hd : A.handled = none
  dp : A.depth + 3 * k + 5 < recursionLimit
  un : A.units + 16 * k + 200 < cLine
theorem Room.mono {j k : Nat} {A : Around} (r : Room k A) (h : j ≤ k) : Room j A := ⟨r.hd, by have := r.dp; omega, by have := r.un; omega⟩
theorem Room.deeper {k : Nat} {A : Around} (r : Room (k + 1) A) (env : Env) : Room k (A.deeper env) :=
  ⟨r.hd, by have := r.dp; show A.depth + 1 + 3 * k + 5 < _; omega, by have := r.un; show A.units + 3 + 16 * k + 200 < _; omega⟩
theorem Room.in1 {k : Nat} {A : Around} (r : Room (k + 1) A) : Room k A.in1 :=
  ⟨r.hd, by have := r.dp; show A.depth + 3 * k + 5 < _; omega, by have := r.un; show A.units + 1 + 16 * k + 200 < _; omega⟩
theorem make_depth {A : Around} {C : Addr} {us : List Value} {kw : List (Str × Value)} : (A.under (.builtin "type.__call__" ⟨.ref C :: us, kw⟩)).depth = A.depth + 1 := by
  first | rfl | simp [Around.under, Code.weight, Code.isCreation, Code.isGuard, Code.isCaller, Code.frames, Code.isFrame, guardIds]
theorem make_units {A : Around} {C : Addr} {us : List Value} {kw : List (Str × Value)} : (A.under (.builtin "type.__call__" ⟨.ref C :: us, kw⟩)).units = A.units + 1 := by
  first | rfl | simp [Around.under, Code.cUnits, Code.frames, Code.isFrame]
theorem Room.make {k : Nat} {A : Around} (r : Room (k + 1) A) (C : Addr) (us : List Value) (kw : List (Str × Value)) : Room k (A.under (.builtin "type.__call__" ⟨.ref C :: us, kw⟩)) :=
  ⟨r.hd, by have := r.dp; rw [make_depth]; omega, by have := r.un; rw [make_units]; omega⟩
theorem Room.depth {k : Nat} {A : Around} (r : Room k A) : A.depth < recursionLimit := by have := r.dp; omega
theorem Room.units {k : Nat} {A : Around} (r : Room k A) : A.units + 64 < cLine := by have := r.un; omega
theorem Room.units0 {k : Nat} {A : Around} (r : Room k A) : A.units < cLine := by have := r.un; omega

/-! ### argument lists and displays -/
def tNil : TA := fun _ H Q => Q [] H
def tCons (ta : TE) (tr : TA) : TA := fun σ H Q => ta σ H fun x H1 => tr σ H1 fun xs H2 => Q (x :: xs) H2
section
variable {X : Cx} {e : Expr} {es : List Expr} {te : TE} {t : TA} {pos : Pos}
theorem pa_nil : PA X [] tNil := fun _ _ _ _ H Q I h => Calls.spliced_nil ⟨[], H, I, .nil, h⟩
theorem pa_cons (ha : PE X e te) (hr : PA X es t) (hs : starEach (e :: es) X.env = (false, eval e X.env) :: starEach es X.env := by rfl) : PA X (e :: es) (tCons te t) := by
  intro pos pins s σ H Q I h
  rw [hs]
  show wpAny _ _ (spliced ((false, eval e X.env) :: backTo pos (starEach es X.env))) _ _ s
  refine Calls.spliced_cons (thn (ha pins s σ H _ I h) fun u s1 ⟨x, H1, I1, r1, q1⟩ => ?_)
  exact thn (hr pos pins s1 σ H1 _ I1 q1) fun us s2 ⟨xs, H2, I2, r2, q2⟩ => ⟨x :: xs, H2, I2, .cons r1 r2, q2⟩

/-- a tuple, a list of written items -/
def tTup (t : TA) : TE := fun σ H Q => t σ H fun xs H1 => xs.length ≤ sizeLine ∧ ∀ p, H1 p = none → Q (.ref p) (upd H1 p (.tup xs))
def tLst (t : TA) : TE := fun σ H Q => t σ H fun xs H1 => xs.length ≤ sizeLine ∧ ∀ p, H1 p = none → Q (.ref p) (upd H1 p (.lst xs))
theorem pe_tup {x1} (h : PA X es t) : PE X (.Tuple es x1 pos) (tTup t) := by
  intro pins s σ H Q I hq
  refine wpAny_Tuple_spliced (thn (h pos pins s σ H _ I hq) fun us s1 ⟨xs, H1, I1, r, z, q⟩ => ⟨by rw [← r.length]; exact z, ?_⟩)
  have hf : H1 s1.heap.objs.size = none := I1.hok.fresh (Nat.le_refl _)
  refine ⟨.ref s1.heap.objs.size, upd H1 s1.heap.objs.size (.tup xs), I1.laid (t' := s1.toks) (fun b u e => Heap.get?_push_of_some _ e) (Nat.le_refl _) ?_, rfl, q _ hf⟩
  exact ⟨z, us, r, ⟨_, Heap.get?_push_size _ rfl, rfl, _, rfl⟩⟩
theorem pe_lst (h : PA X es t) : PE X (.List es pos) (tLst t) := by
  intro pins s σ H Q I hq
  refine wpAny_List_spliced (thn (h pos pins s σ H _ I hq) fun us s1 ⟨xs, H1, I1, r, z, q⟩ => ⟨by rw [← r.length]; exact z, ?_⟩)
  have hf : H1 s1.heap.objs.size = none := I1.hok.fresh (Nat.le_refl _)
  refine ⟨.ref s1.heap.objs.size, upd H1 s1.heap.objs.size (.lst xs), I1.laid (t' := s1.toks) (fun b u e => Heap.get?_push_of_some _ e) (Nat.le_refl _) ?_, rfl, q _ hf⟩
  exact ⟨z, us, 0, r, Heap.get?_push_size _ rfl⟩
end

/-! ### what a def promises -/
/-- a def's promise: the bound arguments in the parameters' order, the heap, the wanted end, the wanted exception -/
abbrev Sp := List V → Hp → VK → XK → Prop
/-- how an exception lies behind a call (file 08 gives it): the callers' frames, abstract heap and state ahead of the call, the wish, the exception, the state -/
abbrev CXT := List Env → Hp → Shared → XK → Value → Shared → Prop

/-- the state at a call -/
structure Env0 (P : Program) (w : World) (K : PySem.W.Frag) (mg : Str → Option Value) (base : Heap) (A : Around) (outer : List Env) (s : Shared) (H : Hp) : Prop where
  frames : A.frames = some outer
  mod : Mod K mg base
  bs : ∀ b o, base.get? b = some o → s.heap.get? b = some o ∧ H b = none
  bsz : base.objs.size ≤ s.heap.objs.size
  funs : s.heap.FunFrames base outer
  frf : ∀ b ∈ frs outer, H b = none
  hok : HOk P w H s.heap
  bare : AllBare s.gens
/-- a call's end -/
def CE (outer : List Env) (P : Program) (w : World) (H : Hp) (s : Shared) (Q : VK) (u : Value) (s' : Shared) : Prop :=
  ∃ v H', s'.os = s.os ∧ AllBare s'.gens ∧ Un (frs outer) [] H H' s.heap s'.heap ∧ HOk P w H' s'.heap ∧ RelV v u ∧ Q v H'
def CR (CX : CXT) (outer : List Env) (P : Program) (w : World) (H : Hp) (s : Shared) (Q : VK) (E : XK) (r : Result) (s' : Shared) : Prop :=
  match r with
  | .ok (.ret u) => CE outer P w H s Q u s'
  | .ok _ => False
  | .error e => CX outer H s E e s'
structure FnOk (P : Program) (w : World) (K : PySem.W.Frag) (mg : Str → Option Value) (base : Heap) (CX : CXT) (k : Nat) (f : Addr) (fd : FuncData) (ps : List Str) (sp : Sp) : Prop where
  len : ∀ vs H Q E, sp vs H Q E → vs.length = ps.length
  run : ∀ (A : Around) (outer : List Env) (s : Shared) (H : Hp) (args : Args) (us : List Value) (vs : List V) (Q : VK) (E : XK), Room k A → Env0 P w K mg base A outer s H → BindsTo s fd args (ps.zip us) → Vals vs us → sp vs H Q E →
    codeAny (model P w) A (.call (.ref f) args) (CR CX outer P w H s Q E) s
theorem FnOk.mono {P : Program} {w : World} {K : PySem.W.Frag} {mg : Str → Option Value} {base : Heap} {CX : CXT} {j k : Nat} {f : Addr} {fd : FuncData} {ps : List Str} {sp : Sp} (F : FnOk P w K mg base CX j f fd ps sp) (h : j ≤ k) :
    FnOk P w K mg base CX k f fd ps sp := ⟨F.len, fun A outer s H args us vs Q E hr => F.run A outer s H args us vs Q E (hr.mono h)⟩
/-- a weaker promise -/
theorem FnOk.imp {P : Program} {w : World} {K : PySem.W.Frag} {mg : Str → Option Value} {base : Heap} {CX : CXT} {k : Nat} {f : Addr} {fd : FuncData} {ps : List Str} {sp sp' : Sp} (F : FnOk P w K mg base CX k f fd ps sp)
    (h : ∀ vs H Q E, sp' vs H Q E → sp vs H Q E) : FnOk P w K mg base CX k f fd ps sp' :=
  ⟨fun vs H Q E q => F.len vs H Q E (h _ _ _ _ q), fun A outer s H args us vs Q E hr he hb hv hs => F.run A outer s H args us vs Q E hr he hb hv (h _ _ _ _ hs)⟩

theorem Env0.make {P : Program} {w : World} {K : PySem.W.Frag} {mg : Str → Option Value} {base : Heap} {A : Around} {outer : List Env} {s : Shared} {H : Hp} (e : Env0 P w K mg base A outer s H) (C : Addr) (us : List Value) (kw : List (Str × Value)) :
    Env0 P w K mg base (A.under (.builtin "type.__call__" ⟨.ref C :: us, kw⟩)) outer s H := ⟨by first | exact e.frames | (simpa [Around.under, Code.envs, Code.isFrame, pushEnvs] using e.frames), e.mod, e.bs, e.bsz, e.funs, e.frf, e.hok, e.bare⟩
theorem Env0.in1 {P : Program} {w : World} {K : PySem.W.Frag} {mg : Str → Option Value} {base : Heap} {A : Around} {outer : List Env} {s : Shared} {H : Hp} (e : Env0 P w K mg base A outer s H) :
    Env0 P w K mg base A.in1 outer s H := ⟨e.frames, e.mod, e.bs, e.bsz, e.funs, e.frf, e.hok, e.bare⟩

section
variable {X : Cx} {pins : List (Addr × Obj)} {σ : St} {H : Hp} {s s' : Shared}
/-- from a body: what a callee wants -/
theorem Inv.env0 (I : Inv X pins σ H s) : Env0 X.prog X.w X.K X.mg X.base X.A X.stack s H :=
  ⟨I.ok.frames, I.ok.mod, I.bs, Nat.le_trans I.ok.bsz I.sz, I.stack, I.stkFree, I.hok, I.bare⟩
/-- behind a call -/
theorem Inv.after {Q : VK} {u : Value} (I : Inv X pins σ H s) (h : CE X.stack X.prog X.w H s Q u s') : EP X pins σ Q u s' := by
  obtain ⟨v, H', os, bare, un, hok, r, q⟩ := h
  obtain ⟨hh, g, d, t, os'⟩ := s'
  obtain rfl : os' = s.os := os
  exact ⟨v, H', I.call (h' := hh) (g' := g) (d' := d) (t' := t) (ch := []) un hok bare (fun b z => absurd z (by simp)), r, q⟩
end

/-! ### calls -/
/-- f(..): the written arguments, then the defaults dvs; E: what is wanted of an exception -/
def tCall (sp : Sp) (dvs : List V) (E : XK) (t : TA) : TE := fun σ H Q => t σ H fun vs H1 => sp (vs ++ dvs) H1 Q E
/-- o.m(..) of an instance of the class at C -/
def tMeth (C : Addr) (m : Str) (sp : Sp) (dvs : List V) (E : XK) (ta : TE) (t : TA) : TE := fun σ H Q => ta σ H fun x H1 => ∃ a dx fs, x = .ref a ∧ H1 a = some (.ins C dx fs) ∧ fs.lookup m = none ∧
  t σ H1 fun vs H2 => sp (x :: (vs ++ dvs)) H2 Q E
/-- C(..): a new instance and its dict, then __init__ -/
def tMake (C : Addr) (sp : Sp) (dvs : List V) (E : XK) (t : TA) : TE := fun σ H Q => t σ H fun vs H1 => ∀ x dx, H1 x = none → H1 dx = none → dx ≠ x →
  sp (.ref x :: (vs ++ dvs)) (upd (upd H1 dx (.own x)) x (.ins C dx [])) (fun v H2 => v = .non ∧ Q (.ref x) H2) E

/-- how the parameters are bound: us the positional arguments, kw the keywords' values by name, ds the defaults that fill up -/
def Binds (K : PySem.W.Frag) (fd : FuncData) (ps : List Str) (ds : List Value) : Prop :=
  ∀ (s : Shared) (us : List Value), K.In s.heap → (us ++ ds).length = ps.length → BindsTo s fd ⟨us, []⟩ (ps.zip (us ++ ds))
/-- every parameter is given -/
theorem Binds.all {K : PySem.W.Frag} {fd : FuncData} {ps : List Str} (h : ∀ us : List Value, us.length = ps.length → bindArgs fd ⟨us, []⟩ = pure (ps.zip us)) : Binds K fd ps [] := fun s us _ hl => by
  rw [List.append_nil] at hl ⊢
  exact .of_eq (h us hl)

/-- an exception of a callee reaches what this body wants of exceptions -/
def Passes (CX : CXT) (X : Cx) (E : XK) : Prop := ∀ (pins : List (Addr × Obj)) (σ : St) (H : Hp) (s : Shared) (e : Value) (s' : Shared), Inv X pins σ H s → CX X.stack H s E e s' → X.xe e s'

section
variable {X : Cx} {CX : CXT} {k : Nat} {f C : Addr} {fd : FuncData} {ps : List Str} {sp : Sp} {dvs : List V} {ds : List Value} {E : XK} {x m : Str} {p pos apos : Pos} {e o : Expr} {es : List Expr} {ta : TE} {t : TA}

/-- the callee runs -/
theorem run_fn {pins : List (Addr × Obj)} {σ : St} {H : Hp} {s : Shared} {Q : VK} {us : List Value} {vs : List V} (F : FnOk X.prog X.w X.K X.mg X.base CX k f fd ps sp) (hr : Room k X.A) (hb : Binds X.K fd ps ds) (hd : Vals dvs ds) (hx : Passes CX X E)
    (I : Inv X pins σ H s) (r : Vals vs us) (h : sp (vs ++ dvs) H Q E) : wpAny (model X.prog X.w) X.A (call (.ref f) us) (EP X pins σ Q) X.xe s := by
  have r2 : Vals (vs ++ dvs) (us ++ ds) := r.append hd
  have hl : (us ++ ds).length = ps.length := by rw [← r2.length]; exact F.len _ _ _ _ h
  refine wpAny_call (codeAny_mono (F.run X.A X.stack s H ⟨us, []⟩ (us ++ ds) (vs ++ dvs) Q E hr I.env0 (hb s us I.kIn hl) r2 h) fun r s' hq => ?_)
  cases r with
  | error e => exact hx pins σ H s e s' I hq
  | ok fl =>
    cases fl with
    | ret u => exact I.after hq
    | next => exact False.elim hq
    | brk => exact False.elim hq
    | cont => exact False.elim hq

theorem pe_call (F : FnOk X.prog X.w X.K X.mg X.base CX k f fd ps sp) (hr : Room k X.A) (hg : Gl X x) (hm : X.mg x = some (.ref f)) (hk : PySem.W.keepIn X.K (.ref f) = true) (hb : Binds X.K fd ps ds) (hd : Vals dvs ds) (hx : Passes CX X E)
    (ha : PA X (e :: es) t) (hdb : (x == ("__debug__" : Str)) = false := by decide) (he : starEach (e :: es) X.env = (false, eval e X.env) :: starEach es X.env := by rfl) (hpl : (backTo pos (starEach es X.env)).any (·.1) = false := by rfl) :
    PE X (.Call (.Name x p) (e :: es) [] pos) (tCall sp dvs E t) := by
  intro pins s σ H Q I h
  refine wpAny_Call_Name_kw (ld_glob I hg hm ?_ hdb)
  refine PySem.W.callWith_K (h₀ := X.base) I.ok.mod.kin hk (thn (ha pos pins s σ H _ I h) fun us s1 ⟨vs, H1, I1, r, q⟩ => ⟨I1.kIn, ?_⟩) he hpl
  exact run_fn F hr hb hd hx I1 r q
theorem pe_call0 (F : FnOk X.prog X.w X.K X.mg X.base CX k f fd ps sp) (hr : Room k X.A) (hg : Gl X x) (hm : X.mg x = some (.ref f)) (hk : PySem.W.keepIn X.K (.ref f) = true) (hb : Binds X.K fd ps ds) (hd : Vals dvs ds) (hx : Passes CX X E)
    (hdb : (x == ("__debug__" : Str)) = false := by decide) : PE X (.Call (.Name x p) [] [] pos) (tCall sp dvs E tNil) := by
  intro pins s σ H Q I h
  refine wpAny_Call_Name_kw (ld_glob I hg hm ?_ hdb)
  exact PySem.W.callWith_K0 I.kIn hk (run_fn (us := []) F hr hb hd hx I .nil h)

/-- o.m(e, ..) -/
theorem pe_meth {pl : Sem Bool} (he : PE X o ta) (c : Cls X.K C) (hm : Meth X.K C m f) (F : FnOk X.prog X.w X.K X.mg X.base CX k f fd ps sp) (hr : Room k X.A) (hb : Binds X.K fd ps ds) (hd : Vals dvs ds) (hx : Passes CX X E) (ha : PA X (e :: es) t)
    (hst : starEach (e :: es) X.env = (false, eval e X.env) :: starEach es X.env := by rfl) (hpl : (backTo pos (starEach es X.env)).any (·.1) = false := by rfl)
    (ht : eval (.Call (.Attribute o m apos) (e :: es) [] pos) X.env = (do
      let ov ← eval o X.env
      standAt apos.atName
      let (f, first) ← holding [ov] (getMethod ov m pl)
      callWith pos f first (backTo pos (starEach (e :: es) X.env)) (backToKw pos (keywordEach [] X.env))) := by rfl) :
    PE X (.Call (.Attribute o m apos) (e :: es) [] pos) (tMeth C m sp dvs E ta t) := by
  intro pins s σ H Q I h
  refine PySem.W.methodCall_KW (pl := pl) (thn (he pins s σ H _ I h) fun u s1 ⟨x, H1, I1, rx, a, dx, fs, ex, ea, l, q⟩ => ?_) ht
  subst ex
  obtain rfl : u = Value.ref a := rx
  refine getmeth_ok I1 ea c hm l ?_
  refine PySem.W.callWith_K (first := [.ref a]) (h₀ := X.base) I.ok.mod.kin hm.kp (thn (ha pos pins s1 σ H1 _ I1 q) fun us s2 ⟨vs, H2, I2, r, q2⟩ => ⟨I2.kIn, ?_⟩) hst hpl
  exact run_fn (us := .ref a :: us) (vs := .ref a :: vs) F hr hb hd hx I2 (.cons rfl r) q2
/-- o.m() -/
theorem pe_meth0 {pl : Sem Bool} (he : PE X o ta) (c : Cls X.K C) (hm : Meth X.K C m f) (F : FnOk X.prog X.w X.K X.mg X.base CX k f fd ps sp) (hr : Room k X.A) (hb : Binds X.K fd ps ds) (hd : Vals dvs ds) (hx : Passes CX X E)
    (ht : eval (.Call (.Attribute o m apos) [] [] pos) X.env = (do
      let ov ← eval o X.env
      standAt apos.atName
      let (f, first) ← holding [ov] (getMethod ov m pl)
      callWith pos f first (backTo pos (starEach [] X.env)) (backToKw pos (keywordEach [] X.env))) := by rfl) :
    PE X (.Call (.Attribute o m apos) [] [] pos) (tMeth C m sp dvs E ta tNil) := by
  intro pins s σ H Q I h
  refine PySem.W.methodCall_KW (pl := pl) (thn (he pins s σ H _ I h) fun u s1 ⟨x, H1, I1, rx, a, dx, fs, ex, ea, l, q⟩ => ?_) ht
  subst ex
  obtain rfl : u = Value.ref a := rx
  refine getmeth_ok I1 ea c hm l ?_
  exact PySem.W.callWith_K0 (first := [.ref a]) I1.kIn hm.kp (run_fn (us := [.ref a]) (vs := [.ref a]) F hr hb hd hx I1 (.cons rfl .nil) q)

/-- what a class must have to be made -/
structure Mk (K : PySem.W.Frag) (C f : Addr) : Prop where
  makes : PySem.W.makesIn K C = true
  init : PySem.W.findIn K (.ref C) "__init__" = some (some (.ref f))
  fn : PySem.W.isFn K (.ref f) = true
  kp : PySem.W.keepIn K (.ref C) = true

theorem run_make {pins : List (Addr × Obj)} {σ : St} {H : Hp} {s : Shared} {Q : VK} {us : List Value} {vs : List V} (M : Mk X.K C f) (F : FnOk X.prog X.w X.K X.mg X.base CX k f fd ps sp) (hr : Room (k + 1) X.A) (hb : Binds X.K fd ps ds) (hd : Vals dvs ds)
    (hx : Passes CX X E) (I : Inv X pins σ H s) (r : Vals vs us)
    (h : ∀ x dx, H x = none → H dx = none → dx ≠ x → sp (.ref x :: (vs ++ dvs)) (upd (upd H dx (.own x)) x (.ins C dx [])) (fun v H2 => v = .non ∧ Q (.ref x) H2) E) :
    wpAny (model X.prog X.w) X.A (call (.ref C) us) (EP X pins σ Q) X.xe s := by
  have hq := h (s.heap.objs.size + 1) s.heap.objs.size (I.hok.fresh (Nat.le_succ _)) (I.hok.fresh (Nat.le_refl _)) (Nat.ne_of_lt (Nat.lt_succ_self _))
  have I2 := Inv.made (C := C) I
  have r2 : Vals (V.ref (s.heap.objs.size + 1) :: (vs ++ dvs)) (Value.ref (s.heap.objs.size + 1) :: (us ++ ds)) := .cons rfl (r.append hd)
  have hl : (Value.ref (s.heap.objs.size + 1) :: us ++ ds).length = ps.length := by
    have e := r2.length
    rw [F.len _ _ _ _ hq] at e
    exact e.symm
  refine wpAny_call (make_map (f := f) I.kIn M.makes M.init (beq_iff_eq.mp M.fn) (codeAny_mono (F.run _ X.stack _ _ ⟨Value.ref (s.heap.objs.size + 1) :: us, []⟩ (Value.ref (s.heap.objs.size + 1) :: (us ++ ds)) _ _ E (hr.make C us [])
    (I2.env0.make C us []) (hb _ (Value.ref (s.heap.objs.size + 1) :: us) I2.kIn hl) r2 hq) fun r s' hq' => ?_))
  cases r with
  | error e => exact hx pins σ _ _ e s' I2 hq'
  | ok fl =>
    cases fl with
    | ret u =>
      obtain ⟨v, H', I3, rv, ev, q3⟩ := I2.after hq'
      subst ev
      exact ⟨rv, ⟨V.ref (s.heap.objs.size + 1), H', I3, rfl, q3⟩⟩
    | next => exact False.elim hq'
    | brk => exact False.elim hq'
    | cont => exact False.elim hq'
theorem pe_make (M : Mk X.K C f) (F : FnOk X.prog X.w X.K X.mg X.base CX k f fd ps sp) (hr : Room (k + 1) X.A) (hg : Gl X x) (hm : X.mg x = some (.ref C)) (hb : Binds X.K fd ps ds) (hd : Vals dvs ds) (hx : Passes CX X E)
    (ha : PA X (e :: es) t) (hdb : (x == ("__debug__" : Str)) = false := by decide) (he : starEach (e :: es) X.env = (false, eval e X.env) :: starEach es X.env := by rfl) (hpl : (backTo pos (starEach es X.env)).any (·.1) = false := by rfl) :
    PE X (.Call (.Name x p) (e :: es) [] pos) (tMake C sp dvs E t) := by
  intro pins s σ H Q I h
  refine wpAny_Call_Name_kw (ld_glob I hg hm ?_ hdb)
  refine PySem.W.callWith_K (h₀ := X.base) I.ok.mod.kin M.kp (thn (ha pos pins s σ H _ I h) fun us s1 ⟨vs, H1, I1, r, q⟩ => ⟨I1.kIn, ?_⟩) he hpl
  exact run_make M F hr hb hd hx I1 r q
theorem pe_make0 (M : Mk X.K C f) (F : FnOk X.prog X.w X.K X.mg X.base CX k f fd ps sp) (hr : Room (k + 1) X.A) (hg : Gl X x) (hm : X.mg x = some (.ref C)) (hb : Binds X.K fd ps ds) (hd : Vals dvs ds) (hx : Passes CX X E)
    (hdb : (x == ("__debug__" : Str)) = false := by decide) : PE X (.Call (.Name x p) [] [] pos) (tMake C sp dvs E tNil) := by
  intro pins s σ H Q I h
  refine wpAny_Call_Name_kw (ld_glob I hg hm ?_ hdb)
  exact PySem.W.callWith_K0 I.kIn M.kp (run_make (us := []) M F hr hb hd hx I .nil h)
end

/-! ### keywords -/
/-- the values of the keywords, from the left -/
def PK (X : Cx) (kws : List Keyword) (t : TA) : Prop :=
  ∀ (pos : Pos) (pins : List (Addr × Obj)) (s : Shared) (σ : St) (H : Hp) (Q : List V → Hp → Prop), Inv X pins σ H s → t σ H Q → wpAny (model X.prog X.w) X.A (evalAll ((backToKw pos (keywordEach kws X.env)).map (·.2))) (AP X pins σ Q) X.xe s
section
variable {X : Cx} {CX : CXT} {k : Nat} {f C : Addr} {fd : FuncData} {ps ks : List Str} {sp : Sp} {E : XK} {x m : Str} {p pos apos kpos : Pos} {e o : Expr} {es : List Expr} {kws : List Keyword} {te ta : TE} {t tk : TA} {nm : Option Str}
theorem pk_nil : PK X [] tNil := fun _ _ _ _ H Q I h => wpAny_evalAll_nil ⟨[], H, I, .nil, h⟩
theorem pk_cons (ha : PE X e te) (hr : PK X kws t) : PK X (⟨nm, e, kpos⟩ :: kws) (tCons te t) := by
  intro pos pins s σ H Q I h
  show wpAny _ _ (evalAll ((do let v ← eval e X.env; standAt pos; pure v) :: (backToKw pos (keywordEach kws X.env)).map (·.2))) _ _ s
  refine wpAny_evalAll_cons (wpAny_bind (thn (ha pins s σ H _ I h) fun u s1 ⟨x, H1, I1, r1, q1⟩ => wpAny_bind (wpAny_standAt (wpAny_pure ?_))))
  exact thn (hr pos pins s1 σ H1 _ I1 q1) fun us s2 ⟨xs, H2, I2, r2, q2⟩ => ⟨x :: xs, H2, I2, .cons r1 r2, q2⟩

/-- how a call with keywords binds: g puts the positional values us and the keywords' values ws (names ks) in the parameters' order, defaults among them -/
structure KBinds (K : PySem.W.Frag) (fd : FuncData) (ps ks : List Str) (g : List Value → List Value → List Value) (gV : List V → List V → List V) : Prop where
  to : ∀ (s : Shared) (us ws : List Value), K.In s.heap → (g us ws).length = ps.length → BindsTo s fd ⟨us, ks.zip ws⟩ (ps.zip (g us ws))
  rel : ∀ {vs : List V} {us : List Value} {zs : List V} {ws : List Value}, Vals vs us → Vals zs ws → Vals (gV vs zs) (g us ws)
def tCallK (sp : Sp) (gV : List V → List V → List V) (E : XK) (t tk : TA) : TE := fun σ H Q => t σ H fun vs H1 => tk σ H1 fun zs H2 => sp (gV vs zs) H2 Q E
variable {g : List Value → List Value → List Value} {gV : List V → List V → List V}
theorem run_fnk {pins : List (Addr × Obj)} {σ : St} {H : Hp} {s : Shared} {Q : VK} {us ws : List Value} {vs zs : List V} (F : FnOk X.prog X.w X.K X.mg X.base CX k f fd ps sp) (hr : Room k X.A) (hb : KBinds X.K fd ps ks g gV) (hx : Passes CX X E)
    (I : Inv X pins σ H s) (r : Vals vs us) (rz : Vals zs ws) (h : sp (gV vs zs) H Q E) : wpAny (model X.prog X.w) X.A (call (.ref f) us (ks.zip ws)) (EP X pins σ Q) X.xe s := by
  have r2 := hb.rel r rz
  have hl : (g us ws).length = ps.length := by rw [← r2.length]; exact F.len _ _ _ _ h
  refine wpAny_call (codeAny_mono (F.run X.A X.stack s H ⟨us, ks.zip ws⟩ (g us ws) (gV vs zs) Q E hr I.env0 (hb.to s us ws I.kIn hl) r2 h) fun r s' hq => ?_)
  cases r with
  | error e => exact hx pins σ H s e s' I hq
  | ok fl =>
    cases fl with
    | ret u => exact I.after hq
    | next => exact False.elim hq
    | brk => exact False.elim hq
    | cont => exact False.elim hq
/-- f(e, .., k = v, ..) -/
theorem pe_callK (F : FnOk X.prog X.w X.K X.mg X.base CX k f fd ps sp) (hr : Room k X.A) (hg : Gl X x) (hm : X.mg x = some (.ref f)) (hk : PySem.W.keepIn X.K (.ref f) = true) (hb : KBinds X.K fd ps ks g gV) (hx : Passes CX X E)
    (ha : PA X (e :: es) t) (hkw : PK X kws tk) (hall : (backToKw pos (keywordEach kws X.env)).all (·.1.isSome) = true := by rfl) (hks : (backToKw pos (keywordEach kws X.env)).filterMap (·.1) = ks := by rfl)
    (hdb : (x == ("__debug__" : Str)) = false := by decide) (he : starEach (e :: es) X.env = (false, eval e X.env) :: starEach es X.env := by rfl)
    (hpl : ((backTo pos (starEach (e :: es) X.env)).any (·.1) || (backToKw pos (keywordEach kws X.env)).any (·.1.isNone)) = false := by rfl) :
    PE X (.Call (.Name x p) (e :: es) kws pos) (tCallK sp gV E t tk) := by
  intro pins s σ H Q I h
  refine wpAny_Call_Name_kw (ld_glob I hg hm ?_ hdb)
  refine PySem.W.callWith_KW (h₀ := X.base) I.ok.mod.kin hk hall (thn (ha pos pins s σ H _ I h) fun us s1 ⟨vs, H1, I1, r, q⟩ => ?_) hpl he
  refine thn (hkw pos pins s1 σ H1 _ I1 q) fun ws s2 ⟨zs, H2, I2, rz, q2⟩ => ⟨I2.kIn, ?_⟩
  rw [hks]
  exact run_fnk F hr hb hx I2 r rz q2
end

/-! ### a def's body keeps its promise -/
/-- names: the parameters first -/
structure FnScope (N P : List Str) (sc : Scope) : Prop where
  kind : sc.kind = .function
  co : sc.isCoroutine = false
  gen : sc.isGenerator = false
  nd : N.Nodup
  pre : N.take P.length = P
  par : ∀ x ∈ P, sc.names.lookup x = some .local ∨ sc.names.lookup x = some .cell
  nofree : ∀ y ∈ sc.names, y.2 ≠ .free

theorem bindL_out {kindOf : Str → Option NameKind} {x : Str} : ∀ {binds : List (Str × Value)} {m : Str → Option Value}, (∀ v, (x, v) ∉ binds) → bindL kindOf binds m x = m x
  | [], _, _ => rfl
  | (n, v) :: r, m, h => by
    unfold bindL
    rw [bindL_out fun w hw => h w (List.mem_cons_of_mem _ hw)]
    split
    · have : x ≠ n := by rintro rfl; exact h v List.mem_cons_self
      simp [this]
    · rfl
theorem bindC_out {kindOf : Str → Option NameKind} {x : Str} : ∀ {binds : List (Str × Value)} {m : Str → Option Value}, (∀ v, (x, v) ∉ binds) → bindC kindOf binds m x = m x
  | [], _, _ => rfl
  | (n, v) :: r, m, h => by
    unfold bindC
    rw [bindC_out fun w hw => h w (List.mem_cons_of_mem _ hw)]
    split
    · rfl
    · have : x ≠ n := by rintro rfl; exact h v List.mem_cons_self
      simp [this]
theorem bindL_get {kindOf : Str → Option NameKind} {x : Str} {v : Value} : ∀ {P : List Str} {vs : List Value} {i : Nat} {m : Str → Option Value}, P.Nodup → P[i]? = some x → vs[i]? = some v → kindOf x = some .local →
    bindL kindOf (P.zip vs) m x = some v
  | [], _, _, _, _, h, _, _ => by simp at h
  | _ :: _, [], _, _, _, _, h, _ => by simp at h
  | p :: P, w :: vs, 0, m, nd, h1, h2, hk => by
    simp at h1 h2; subst h1; subst h2
    show bindL kindOf ((p, w) :: P.zip vs) m p = _
    unfold bindL
    rw [bindL_out fun v hv => (List.nodup_cons.mp nd).1 (List.of_mem_zip hv).1, if_pos hk]
    simp
  | p :: P, w :: vs, i + 1, m, nd, h1, h2, hk => by
    show bindL kindOf ((p, w) :: P.zip vs) m x = _
    unfold bindL
    exact bindL_get (i := i) (List.nodup_cons.mp nd).2 (by simpa using h1) (by simpa using h2) hk
theorem bindC_get {kindOf : Str → Option NameKind} {x : Str} {v : Value} : ∀ {P : List Str} {vs : List Value} {i : Nat} {m : Str → Option Value}, P.Nodup → P[i]? = some x → vs[i]? = some v → kindOf x ≠ some .local →
    bindC kindOf (P.zip vs) m x = some v
  | [], _, _, _, _, h, _, _ => by simp at h
  | _ :: _, [], _, _, _, _, h, _ => by simp at h
  | p :: P, w :: vs, 0, m, nd, h1, h2, hk => by
    simp at h1 h2; subst h1; subst h2
    show bindC kindOf ((p, w) :: P.zip vs) m p = _
    unfold bindC
    rw [bindC_out fun v hv => (List.nodup_cons.mp nd).1 (List.of_mem_zip hv).1, if_neg hk]
    simp
  | p :: P, w :: vs, i + 1, m, nd, h1, h2, hk => by
    show bindC kindOf ((p, w) :: P.zip vs) m x = _
    unfold bindC
    exact bindC_get (i := i) (List.nodup_cons.mp nd).2 (by simpa using h1) (by simpa using h2) hk

/-- the names' values at the entry -/
def start (N : List Str) (vs : List V) : St := vs.map some ++ List.replicate (N.length - vs.length) none

/-- the context of a def's body, at its entry; an exception leaves the frame, then lies as CX says -/
def cxOf (CX : CXT) (P : Program) (w : World) (K : PySem.W.Frag) (mg : Str → Option Value) (base : Heap) (N : List Str) (qual : Str) (scope : Scope) (f : Addr) (cd : Value) (A : Around) (outer : List Env) (s : Shared) (H : Hp) (E : XK) : Cx where
  prog := P
  w := w
  K := K
  mg := mg
  base := base
  A := A.deeper (envOfC qual scope s.heap.objs.size f cd)
  N := N
  s₀ := s
  H₀ := H
  env := envOfC qual scope s.heap.objs.size f cd
  outer := outer
  stack := envOfC qual scope s.heap.objs.size f cd :: outer
  ex := []
  calm := true
  fn := fun _ => true
  pn := []
  xe := fun e s' => wpAny (model P w) (A.deeper (envOfC qual scope s.heap.objs.size f cd)) (leaving (envOfC qual scope s.heap.objs.size f cd) e) (fun _ s'' => CX outer H s E e s'') (fun e' s'' => CX outer H s E e' s'') s'

theorem cell_has {sc : Scope} {n : Nat} {x : Str} (h : sc.names.lookup x = some .cell) : ∃ c, (cellsFrom n sc.names []).lookup x = some c := by
  have q := PySem.W.cellsFrom_some sc.names n [] (.inl h)
  exact Option.isSome_iff_exists.mp q

theorem inv_start {CX : CXT} {P : Program} {w : World} {K : PySem.W.Frag} {mg : Str → Option Value} {base : Heap} {N ps : List Str} {qual : Str} {scope : Scope} {f : Addr} {cd : Value} {A : Around} {outer : List Env} {s s1 : Shared} {H : Hp} {E : XK} {us : List Value} {vs : List V}
    (S : FnScope N ps scope) (hd : A.handled = none) (e0 : Env0 P w K mg base A outer s H) (hl : vs.length = ps.length) (r : Vals vs us)
    (x : InCallC s s.heap.objs.size (bindL (envOfC qual scope s.heap.objs.size f cd).kindOf (ps.zip us) fun _ => none) (cellsFrom (s.heap.objs.size + 1) scope.names []) (bindC (envOfC qual scope s.heap.objs.size f cd).kindOf (ps.zip us) fun _ => none) s1) :
    Inv (cxOf CX P w K mg base N qual scope f cd A outer s H E) [] (start N vs) H s1 := by
  have hpl : ps.length ≤ N.length := by have := congrArg List.length S.pre; rw [List.length_take] at this; omega
  obtain ⟨h1, tk, rfl, hk⟩ := x.done
  have noA : ∀ b : Addr, b ∉ (cxOf CX P w K mg base N qual scope f cd A outer s H E).ex := fun b z => absurd (show b ∈ ([] : List Addr) from z) (by simp)
  refine ⟨⟨e0.mod, S.kind, rfl, rfl, Nat.le_refl _, fun y z c h1 h2 => ?_, fun y hy => ?_, fun y c _ h => ?_, fun _ => hd, Around.frames_deeper e0.frames, .inr ⟨rfl, rfl⟩, fun b z => absurd z (noA b), e0.bs, e0.bsz, fun b _ _ => noA b, fun b z => absurd z (noA b), e0.funs, e0.frf⟩,
    rfl, e0.bare, Un.kept hk, ⟨_, x.toInCall.ns, fun i y v h1 h2 h3 => ?_⟩, fun y c h => ⟨_, x.cell y c h⟩, e0.hok.fresh (Nat.le_refl _), fun y c h => ?_, fun p hp => absurd (show p ∈ ([] : List (Addr × Obj)) from hp) (by simp), e0.hok.kept hk, ?_⟩
  · exact name_of_addr x.apart (PySem.mem_of_lookup h1) (PySem.mem_of_lookup h2)
  · have hy : scope.names.lookup y = some .cell ∨ scope.names.lookup y = some .free := hy
    rcases hy with hy | hy
    · exact cell_has hy
    · exact absurd rfl (S.nofree _ (PySem.mem_of_lookup hy))
  · exact Nat.le_of_lt (x.above y c (PySem.mem_of_lookup h))
  · have hi : i < vs.length := by
      unfold start at h2
      by_cases hi : i < vs.length
      · exact hi
      · rw [List.getElem?_append_right (by simpa using hi)] at h2
        rw [List.getElem?_replicate] at h2
        split at h2 <;> cases h2
    have ha : vs[i]? = some v := by
      unfold start at h2
      rw [List.getElem?_append_left (by simpa using hi), List.getElem?_map] at h2
      cases e : vs[i]? with
      | none => rw [e] at h2; cases h2
      | some a => rw [e] at h2; cases h2; rfl
    obtain ⟨u, hu, rv⟩ := r.get ha
    have hp : ps[i]? = some y := by
      rw [← S.pre, List.getElem?_take_of_lt (by omega)]; exact h1
    have ndP : ps.Nodup := by rw [← S.pre]; exact S.nd.sublist (List.take_sublist _ _)
    refine ⟨u, rv, ?_⟩
    rcases S.par y (List.mem_of_getElem? hp) with k | k
    · exact .inl ⟨k, bindL_get ndP hp hu k⟩
    · obtain ⟨c, e⟩ := cell_has (n := s.heap.objs.size + 1) k
      refine .inr ⟨.inl k, c, e, ?_⟩
      have q := x.cell y c e
      rw [bindC_get ndP hp hu (by show scope.names.lookup y ≠ _; rw [k]; decide)] at q
      exact q
  · exact e0.hok.fresh (Nat.le_of_lt (x.above y c (PySem.mem_of_lookup h)))
  · unfold start
    show _ = N.length
    rw [List.length_append, List.length_map, List.length_replicate]
    omega

/-- THE RULE: a def (or a method) of the text, by its body. The body's reading t is chosen for each entry; it is run at the parameters' values -/
theorem fn_of {CX : CXT} {P : Program} {w : World} {K : PySem.W.Frag} {mg : Str → Option Value} {base : Heap} {k : Nat} {f : Addr} {name qual : Str} {params : Arguments} {body : List Stmt} {scope : Scope} {dV kV doc pm cdv ct oc : Value} {an od : Option Addr}
    {osl : Array (Option Value)} {N ps : List Str} {sp : Sp} (lk : K.lookup f = some ⟨oc, od, .func (PySem.W.fnOf name qual params body scope dV kV doc pm an cdv ct), osl⟩) (hcd : PySem.W.codeIn K cdv qual = true) (S : FnScope N ps scope)
    (len : ∀ vs H Q E, sp vs H Q E → vs.length = ps.length)
    (hbody : ∀ (A : Around) (outer : List Env) (s : Shared) (H : Hp) (vs : List V) (Q : VK) (E : XK), Room k (A.deeper (envOfC qual scope s.heap.objs.size f cdv)) → sp vs H Q E →
      ∃ t, PSs (cxOf CX P w K mg base N qual scope f cdv A outer s H E) body t ∧ t { nx := fun _ H' => Q .non H', rt := Q } (start N vs) H) :
    FnOk P w K mg base CX (k + 1) f (PySem.W.fnOf name qual params body scope dV kV doc pm an cdv ct) ps sp := by
  refine ⟨len, fun A outer s H args us vs Q E hr e0 hb r hsp => ?_⟩
  have hl := len _ _ _ _ hsp
  have KX : K.In s.heap := e0.mod.kin.keeps fun b o e => (e0.bs b o e).1
  have lim : s.heap.NoLimit := e0.mod.nolimit.keeps fun b o e => (e0.bs b o e).1
  have hkind : ∀ y ∈ ps.zip us, scope.names.lookup y.1 = some .local ∨ (scope.names.lookup y.1 = some .cell ∧ ((cellsFrom (s.heap.objs.size + 1) scope.names []).lookup y.1).isSome = true) := fun ⟨n, v⟩ hy => by
    rcases S.par n (List.of_mem_zip hy).1 with q | q
    · exact .inl q
    · exact .inr ⟨q, PySem.W.cellsFrom_some _ _ _ (.inl q)⟩
  refine codeAny_call_function hr.depth (KX _ _ lk) rfl S.co S.gen rfl (PySem.W.codeRec_of KX hcd) (hb _ _ _ _ ?_)
  refine wpAny_newFunctionEnv_cells S.kind hkind fun env he s1 x => ?_
  subst he
  refine ⟨lim.keeps x.toInCall.keep, codeAny_func ?_⟩
  obtain ⟨t, ht, hq⟩ := hbody A outer s H vs Q E (hr.deeper _) hsp
  have I : Inv (cxOf CX P w K mg base N qual scope f cdv A outer s H E) [] (start N vs) H s1 := inv_start S hr.hd e0 hl r x
  refine wpAny_mono (ht [] s1 (start N vs) H _ I hq) (fun fl s' hs => ?_) fun e s' hs => hs
  have fin : ∀ {σ' : St} {H' : Hp} {v : V} {u : Value}, Inv (cxOf CX P w K mg base N qual scope f cdv A outer s H E) [] σ' H' s' → RelV v u → Q v H' → CE outer P w H s Q u s' :=
    fun {σ' H' v u} J rv q => ⟨v, H', J.os, J.bare, J.base, J.hok, rv, q⟩
  cases fl with
  | ret u =>
    obtain ⟨v, σ', H', J, rv, q⟩ := hs
    exact fin J rv q
  | next =>
    obtain ⟨σ', H', J, q⟩ := hs
    exact fin (v := V.non) (u := Value.none) J rfl q
  | brk =>
    obtain ⟨_, _, _, q⟩ := hs
    exact False.elim q
  | cont =>
    obtain ⟨_, _, _, q⟩ := hs
    exact False.elim q
end L2

namespace L2
open PySem PySem.Spec PyProof.Rows
section
variable {X : Cx} {x : Str} {p pos : Pos} {e : Expr} {es : List Expr} {t : TA} {id T : String} {r : List V → Hp → VK → Prop}

def tCB (r : List V → Hp → VK → Prop) (t : TA) : TE := fun σ H Q => t σ H fun vs H1 => r vs H1 Q
/-- f(e, ..), f a built-in function -/
theorem pe_callB (hc : CallR X (.builtin id) r) (hg : Gl X x) (hm : X.mg x = none) (hv : bootBuiltins x = some (.builtin id)) (ha : PA X (e :: es) t) (hn : x ≠ "__name__" := by decide) (hdb : (x == ("__debug__" : Str)) = false := by decide)
    (he : starEach (e :: es) X.env = (false, eval e X.env) :: starEach es X.env := by rfl) (hpl : (backTo pos (starEach es X.env)).any (·.1) = false := by rfl) : PE X (.Call (.Name x p) (e :: es) [] pos) (tCB r t) := by
  intro pins s σ H Q I h
  refine wpAny_Call_Name_kw (ld_blt I hg hm hv ?_ hn hdb)
  exact PyProof.Rows.callWith_builtin1 (thn (ha pos pins s σ H _ I h) fun us s1 ⟨vs, H1, I1, r1, q1⟩ => hc pins s1 σ H1 vs us Q I1 r1 q1) he hpl
/-- T(e, ..), T a built-in type -/
theorem pe_callTy (hc : CallR X (.type T) r) (hg : Gl X x) (hm : X.mg x = none) (hv : bootBuiltins x = some (.type T)) (ha : PA X (e :: es) t) (hn : x ≠ "__name__" := by decide) (hdb : (x == ("__debug__" : Str)) = false := by decide)
    (he : starEach (e :: es) X.env = (false, eval e X.env) :: starEach es X.env := by rfl) (hpl : (backTo pos (starEach es X.env)).any (·.1) = false := by rfl) : PE X (.Call (.Name x p) (e :: es) [] pos) (tCB r t) := by
  intro pins s σ H Q I h
  refine wpAny_Call_Name_kw (ld_blt I hg hm hv ?_ hn hdb)
  exact PyProof.Rows.callWith_type1 (thn (ha pos pins s σ H _ I h) fun us s1 ⟨vs, H1, I1, r1, q1⟩ => hc pins s1 σ H1 vs us Q I1 r1 q1) he hpl
/-- T() -/
theorem pe_callTy0 (hc : CallR X (.type T) r) (hg : Gl X x) (hm : X.mg x = none) (hv : bootBuiltins x = some (.type T)) (hn : x ≠ "__name__" := by decide) (hdb : (x == ("__debug__" : Str)) = false := by decide) :
    PE X (.Call (.Name x p) [] [] pos) (tCB r tNil) := by
  intro pins s σ H Q I h
  refine wpAny_Call_Name_kw (ld_blt I hg hm hv ?_ hn hdb)
  exact PyProof.Rows.callWith_type0 (hc pins s σ H [] [] Q I .nil h)
end
end L2

namespace HT
open PySem PyProof.Rows

/-- t < u of tuples of ints -/
def lexLt : List Int → List Int → Bool
  | [], [] => false
  | [], _ :: _ => true
  | _ :: _, [] => false
  | x :: xs, y :: ys => if x = y then lexLt xs ys else decide (x < y)
theorem lexLt_cons (x y : Int) (xs ys : List Int) : lexLt (x :: xs) (y :: ys) = if x = y then lexLt xs ys else decide (x < y) := rfl
theorem lexLt_nil_nil : lexLt [] [] = false := rfl
theorem lexLt_nil_cons (y : Int) (ys : List Int) : lexLt [] (y :: ys) = true := rfl
theorem lexLt_cons_nil (x : Int) (xs : List Int) : lexLt (x :: xs) [] = false := rfl

theorem eqAt_int (A : Around) (s : Shared) (a : Int) (t : Tok) (c : Int) (u : Tok) : ∃ e, SeqAt.EqAt A s (.int a t) (.int c u) e ∧ (e = true ↔ a = c) :=
  ⟨(a == c), SeqAt.EqAt.int_int a t c u, by simp⟩
theorem rcLt_int (A : Around) (s : Shared) (a : Int) (t : Tok) (c : Int) (u : Tok) (prog : Program) (w : World) (E : Value → Shared → Prop) (Q : Value → Shared → Prop) (h : Q (.bool (decide (a < c))) s) :
    wpAny (model prog w) A (richCompare .Lt (.int a t) (.int c u)) Q E s :=
  (PyProof.Rows.lt_int h : wpAny (model prog w) A (compareOp .Lt (.int a t) (.int c u)) Q E s)

section
open PySem.SeqAt
open PySem.AutoSeq1 (wpAny_loadPart')
open PySem.MeetsSeq PySem.MeetsSeq2 PySem.MeetsSeq3

theorem tuple_lt_ints (l b : Addr) (items items2 : Array Value) (n n2 : Nat) (dd dd2 : Option Addr) (sl sl2 : Array (Option Value)) (ns ms : List Int) (hi : IntsAre items.toList ns) (hj : IntsAre items2.toList ms) :
    Meets (Builtin.«tuple.__lt__» ⟨[.ref l, .ref b], []⟩)
      (fun _ R s => s.heap.get? l = some { cls := .type "tuple", dict := dd, data := .seq items n, slots := sl } ∧ s.heap.get? b = some { cls := .type "tuple", dict := dd2, data := .seq items2 n2, slots := sl2 } ∧
        R (.ok (.ret (.bool (lexLt ns ms)))) s) :=
  .of_wp fun prog w A R s h => by
    obtain ⟨hp, g, d, tk, os⟩ := s; obtain ⟨hl, hb, h⟩ := h
    have f2 := AutoSeq1.sub_tuple_tuple
    have z1 : items.size = ns.length := by rw [← hi.length]; simp
    have z2 : items2.size = ms.length := by rw [← hj.length]; simp
    wp_walk using wpAny_loadPart' hl, wpAny_loadPart' hb, wpAny_forIn_list _ (fun rest b s' => b.1 = none ∧ s' = ⟨hp, g, d, tk, os⟩ ∧ ∃ (vs ws : List Value) (ns' ms' : List Int), rest = vs.zip ws ∧
      IntsAre vs ns' ∧ IntsAre ws ms' ∧ ns'.length + items2.size = ms'.length + items.size ∧ R (.ok (.ret (.bool (lexLt ns' ms')))) ⟨hp, g, d, tk, os⟩) _
    case turn =>
      rintro ⟨y, x⟩ rest b s' ⟨hb', rfl, vs, ws, ns', ms', hz, hvi, hwi, hlen, hR⟩
      cases hvi with
      | nil => rw [List.zip_nil_left] at hz; cases hz
      | cons a t hvi' =>
        cases hwi with
        | nil => rw [List.zip_nil_right] at hz; cases hz
        | cons c u hwi' =>
          rw [List.zip_cons_cons] at hz
          injection hz with hyx hrest
          injection hyx with hy hx
          subst hy hx
          rw [lexLt_cons] at hR
          simp only [List.length_cons] at hlen
          obtain ⟨e, he, hiff⟩ := eqAt_int A.in1 ⟨hp, g, d, tk, os⟩ a t c u
          refine wpAny_bind (he prog w _ _ ?_)
          cases e with
          | true =>
            rw [if_pos (hiff.mp rfl)] at hR
            wp_walk
            exact ⟨rfl, rfl, _, _, _, _, hrest, hvi', hwi', by omega, hR⟩
          | false =>
            rw [if_neg (fun q => absurd (hiff.mpr q) Bool.false_ne_true)] at hR
            have hri := rcLt_int A.in1 ⟨hp, g, d, tk, os⟩ a t c u prog w
            wp_walk using hri
            exact ⟨_, rfl, by simpa using hR⟩
    case fin =>
      rintro ⟨b1, b2⟩ s' ⟨hb', rfl, vs, ws, ns', ms', hz, hvi, hwi, hlen, hR⟩
      simp only at hb'
      subst hb'
      have hv : lexLt ns' ms' = decide (items.size < items2.size) := by
        cases hvi with
        | nil =>
          cases hwi with
          | nil =>
            simp only [List.length_nil] at hlen
            rw [lexLt_nil_nil]
            exact (decide_eq_false (by omega)).symm
          | cons c u hw =>
            simp only [List.length_nil, List.length_cons] at hlen
            rw [lexLt_nil_cons]
            exact (decide_eq_true (by omega)).symm
        | cons a t hv =>
          cases hwi with
          | nil =>
            simp only [List.length_nil, List.length_cons] at hlen
            rw [lexLt_cons_nil]
            exact (decide_eq_false (by omega)).symm
          | cons c u hw =>
            rw [List.zip_cons_cons] at hz
            cases hz
      rw [hv] at hR
      wp_walk
      exact ⟨_, rfl, by simpa [Builtin.Tuple.tupleCompareSizes] using hR⟩
    case h =>
      exact ⟨rfl, rfl, items.toList, items2.toList, ns, ms, rfl, hi, hj, by omega, h⟩
end

section
variable {prog : Program} {w : World} {A : Around} {E : Value → Shared → Prop} {s : Shared}

theorem lt_tupInts {l b : Addr} {items items2 : Array Value} {ns ms : List Int} {Q : Value → Shared → Prop} (hl : IsTup s.heap l items) (hb : IsTup s.heap b items2) (hi : IntsAre items.toList ns) (hj : IntsAre items2.toList ms)
    (hu : A.units < cLine) (h : Q (.bool (lexLt ns ms)) s) : wpAny (model prog w) A (compareOp .Lt (.ref l) (.ref b)) Q E s := by
  obtain ⟨⟨cls, dd, data, sl⟩, ho, hc, n, hd⟩ := id hl
  obtain ⟨⟨cls2, dd2, data2, sl2⟩, ho2, hc2, n2, hd2⟩ := id hb
  simp only at hc hd hc2 hd2
  subst hc hd hc2 hd2
  exact richCompare_meets_room (op := .Lt) ⟨_, ho, rfl⟩ ⟨_, ho2, rfl⟩ PySem.F.slot_tuple_lt PySem.F.entry_tuple_lt (PySem.F.args_tuple_lt_2 _ _) (tuple_lt_ints l b items items2 n n2 dd dd2 sl sl2 ns ms hi hj)
    ⟨ho, ho2, show Value.bool (lexLt ns ms) ≠ Value.notImplemented ∧ Q (.bool (lexLt ns ms)) s from ⟨(fun x => nomatch x), h⟩⟩ hu

/-- t + u, t not empty -/
theorem cat_tup {t b : Addr} {vs ws : List Value} {Q : Value → Shared → Prop} (ht : IsTup s.heap t vs.toArray) (hb : IsTup s.heap b ws.toArray) (hv : vs ≠ [])
    (h1 : ws = [] → Q (.ref t) s) (h2 : ws ≠ [] → Q (.ref s.heap.objs.size) { s with heap := s.heap.push { cls := .type "tuple", data := .seq (vs ++ ws).toArray } })
    (hsz : vs.length + ws.length ≤ sizeLine) : wpAny (model prog w) A (binaryOp .Add (.ref t) (.ref b)) Q E s := by
  obtain ⟨⟨cls, dd, data, sl⟩, ho, hc, n, hd⟩ := id ht
  obtain ⟨⟨cls2, dd2, data2, sl2⟩, ho2, hc2, n2, hd2⟩ := id hb
  simp only at hc hd hc2 hd2
  subst hc hd hc2 hd2
  have e : vs.toArray ++ ws.toArray = (vs ++ ws).toArray := by simp
  by_cases hw : ws = []
  · exact concat_meets ⟨_, ho, rfl⟩ ⟨_, ho2, rfl⟩ noFill_tuple_add seq_tuple_add PySem.F.slot_tuple_add PySem.F.entry_tuple_add (PySem.F.args_tuple_add_2 _ _)
      (tuple_addW1 t b vs.toArray ws.toArray n n2 dd dd2 sl sl2 (by simpa using hv) (by simp [hw])) ⟨ho, ho2, h1 hw⟩
  · refine concat_meets ⟨_, ho, rfl⟩ ⟨_, ho2, rfl⟩ noFill_tuple_add seq_tuple_add PySem.F.slot_tuple_add PySem.F.entry_tuple_add (PySem.F.args_tuple_add_2 _ _)
      (tuple_addW2 t b vs.toArray ws.toArray n n2 dd dd2 sl sl2 (by simpa using hv) (by simpa using hw) (by rw [List.size_toArray, List.size_toArray]; exact hsz)) ⟨ho, ho2, ?_⟩
    rw [e]
    exact h2 hw

/-! ### t[a:b], not the whole -/
/-- a slice's bound as a place among n (d where it is left out) -/
def sIx (n d : Nat) : Option Int → Nat
  | none => d
  | some v => if v < 0 then (v + (n : Int)).toNat else min v.toNat n
theorem sIx_none (n d : Nat) : sIx n d none = d := rfl
theorem sIx_nat (n d k : Nat) : sIx n d (some (k : Int)) = min k n := by
  show (if (k : Int) < 0 then ((k : Int) + (n : Int)).toNat else min (k : Int).toNat n) = min k n
  rw [if_neg (by omega), Int.toNat_natCast]
theorem sIx_le (n d : Nat) (hd : d ≤ n) (o : Option Int) : sIx n d o ≤ n := by
  cases o with
  | none => exact hd
  | some v =>
    show (if v < 0 then (v + (n : Int)).toNat else min v.toNat n) ≤ n
    by_cases hv : v < 0
    · rw [if_pos hv]; omega
    · rw [if_neg hv]; exact Nat.min_le_right _ _
theorem clip_eq (v : Int) (n d : Nat) : (if v < 0 then max (v + (n : Int)) 0 else min v (n : Int)) = ((sIx n d (some v) : Nat) : Int) := by
  show (if v < 0 then max (v + (n : Int)) 0 else min v (n : Int)) = (((if v < 0 then (v + (n : Int)).toNat else min v.toNat n) : Nat) : Int)
  by_cases hv : v < 0
  · simp only [if_pos hv]; omega
  · simp only [if_neg hv]; omega
theorem adjust_gen (lo hi : Option Int) (n : Nat) : Builtin.Slice.sliceAdjust lo hi 1 (n : Int) = (((sIx n 0 lo : Nat) : Int), ((sIx n n hi : Nat) : Int)) := by
  have h1 : ¬ ((1 : Int) < 0) := by omega
  unfold Builtin.Slice.sliceAdjust
  simp only [h1, if_false]
  refine Prod.ext ?_ ?_
  · cases lo with
    | none => rfl
    | some v => exact clip_eq v n 0
  · cases hi with
    | none => rfl
    | some v => exact clip_eq v n n
theorem places_gen (i j : Nat) : Builtin.Slice.slicePlaces (i : Int) (j : Int) 1 = j - i := by
  unfold Builtin.Slice.slicePlaces
  have h1 : (1 : Int) > 0 := by omega
  simp only [h1, if_true, Int.ediv_one]
  split <;> omega
theorem slicePart_ {v : Value} {o : Option Int} {Q : Option Int → Shared → Prop} (p : IsPart v o) (h : Q o s) : wpAny (model prog w) A (Builtin.Slice.slicePartIndex v) Q E s := by
  cases p with
  | none => exact slicePart_none h
  | int i t => exact slicePart_int h
theorem sliceApplied_gen {sl : Addr} {vl vu : Value} {lo hi : Option Int} {n : Nat} {Q : Int × Int × Nat → Shared → Prop} (hs : s.heap.IsSliceOf sl vl vu .none) (pl : IsPart vl lo) (pu : IsPart vu hi)
    (h : Q (((sIx n 0 lo : Nat) : Int), 1, sIx n n hi - sIx n 0 lo) s) : wpAny (model prog w) A (Builtin.Slice.sliceApplied (.ref sl) (pure (n : Int))) Q E s := by
  obtain ⟨os, hos, hcs, hds⟩ := id hs
  unfold Builtin.Slice.sliceApplied Builtin.Slice.sliceFields
  refine wpAny_bind (wpAny_bind (wpAny_field hos hds (x := vl) rfl (wpAny_bind (wpAny_field hos hds (x := vu) rfl (wpAny_bind (wpAny_field hos hds (x := .none) rfl (wpAny_pure ?_)))))))
  refine wpAny_bind (slicePart_none ?_)
  show wpAny _ _ (if ((1 : Int) == 0) = true then _ else _) _ _ s
  rw [if_neg (by decide)]
  refine wpAny_bind (slicePart_ pl (wpAny_bind (slicePart_ pu (wpAny_bind (wpAny_pure ?_)))))
  show wpAny _ _ (match Builtin.Slice.sliceAdjust lo hi 1 (n : Int) with | (lo, hi) => pure (lo, (1 : Int), Builtin.Slice.slicePlaces lo hi 1)) _ _ s
  rw [adjust_gen lo hi n]
  show wpAny _ _ (pure (((sIx n 0 lo : Nat) : Int), (1 : Int), Builtin.Slice.slicePlaces ((sIx n 0 lo : Nat) : Int) ((sIx n n hi : Nat) : Int) 1)) _ _ s
  rw [places_gen]
  exact wpAny_pure h
theorem pick_gen (xs : Array Value) (i k : Nat) : ((List.range k).filterMap fun (m : Nat) => xs[((i : Int) + (m : Int) * 1).toNat]?).toArray = ((xs.toList.drop i).take k).toArray := by
  have e : (fun (m : Nat) => xs[((i : Int) + (m : Int) * 1).toNat]?) = fun m => xs[i + m]? := by
    funext m
    have : ((i : Int) + (m : Int) * 1).toNat = i + m := by omega
    rw [this]
  rw [e]
  have := pick_run xs i k
  rw [List.filterMap_map] at this
  have e2 : ((fun x => xs[x]?) ∘ fun x => i + x) = fun m => xs[i + m]? := rfl
  rw [e2] at this
  rw [this]

theorem getItem_tuple_cut {t sl : Addr} {items : Array Value} {vl vu : Value} {lo hi : Option Int} {Q : Value → Shared → Prop} (ht : IsTup s.heap t items) (hs : s.heap.IsSliceOf sl vl vu .none) (pl : IsPart vl lo) (pu : IsPart vu hi)
    (hw : ¬ (sIx items.size 0 lo = 0 ∧ sIx items.size items.size hi = items.size))
    (h : Q (.ref s.heap.objs.size) { s with heap := s.heap.push { cls := .type "tuple", data := .seq ((items.toList.drop (sIx items.size 0 lo)).take (sIx items.size items.size hi - sIx items.size 0 lo)).toArray } })
    (hsz : items.size ≤ sizeLine) : wpAny (model prog w) A (getItem (.ref t) (.ref sl)) Q E s := by
  have htake : sizeOk (.seq ((items.toList.drop (sIx items.size 0 lo)).take (sIx items.size items.size hi - sIx items.size 0 lo)).toArray) := by
    show ((items.toList.drop (sIx items.size 0 lo)).take (sIx items.size items.size hi - sIx items.size 0 lo)).toArray.size ≤ sizeLine
    rw [List.size_toArray, List.length_take, List.length_drop, Array.length_toList]
    omega
  have hj : sIx items.size items.size hi ≤ items.size := sIx_le _ _ (Nat.le_refl _) hi
  obtain ⟨os, hos, hcs, hds⟩ := id hs
  have hTs : s.TypeIs (.ref sl) "slice" := ⟨os, hos, hcs⟩
  unfold getItem
  try with_reducible refine wpAny_holding ?_
  first | refine wpAny_bind (wpAny_pure ?_) | skip
  refine wpAny_bind (wpAny_sequenceKey ht.typeIs (by decide) ?_)
  refine wpAny_bind (wpAny_callSpecial?_slot (name := Str.ofString "__getitem__") ht.typeIs PyProof.Rows.slot_tuple_getitem
    (wpAny_call_entry PyProof.Rows.slot_tuple_getitem ht.typeIs entry_tuple_getitem ?_ (args_tuple_getitem _ _)))
  show wpAny _ _ (Builtin.Tuple.tupleItemsOf (.ref t) >>= _) _ _ s
  refine wpAny_bind (tupleItemsOf_ ht ?_)
  refine wpAny_bind (wpAny_typeOf hTs ?_)
  rw [if_pos (by decide)]
  refine wpAny_bind (sliceApplied_gen hs pl pu ?_)
  have hno : ¬ ((((sIx items.size 0 lo : Nat) : Int) == 0 && (1 : Int) == 1 && (sIx items.size items.size hi - sIx items.size 0 lo) == items.size) = true) := by
    intro q
    rw [Bool.and_eq_true, Bool.and_eq_true] at q
    have q1 : ((sIx items.size 0 lo : Nat) : Int) = 0 := eq_of_beq q.1.1
    have q2 : sIx items.size items.size hi - sIx items.size 0 lo = items.size := eq_of_beq q.2
    exact hw ⟨by omega, by omega⟩
  show wpAny _ _ (if (((sIx items.size 0 lo : Nat) : Int) == 0 && (1 : Int) == 1 && (sIx items.size items.size hi - sIx items.size 0 lo) == items.size) = true then _ else _) _ _ s
  rw [if_neg hno, pick_gen]
  first
    | exact wpAny_bind (m := Builtin.Tuple.tupleExact _) (wpAny_newObj_type (wpAny_pure ⟨_, rfl, wpAny_pure h⟩) htake)
    | exact wpAny_bind (m := Builtin.Tuple.tupleExact _) (wpAny_newObj_type (wpAny_bind (wpAny_pure (wpAny_pure ⟨_, rfl, wpAny_pure h⟩))) htake)
    | exact wpAny_bind (wpAny_bind (m := Builtin.Tuple.tupleExact _) (wpAny_newObj_type (wpAny_pure (wpAny_pure ⟨_, rfl, wpAny_pure h⟩)) htake))
    | exact wpAny_bind (wpAny_bind (m := Builtin.Tuple.tupleExact _) (wpAny_newObj_type (wpAny_pure ⟨_, rfl, wpAny_pure h⟩) htake))
end
end HT

namespace L2
open PySem PySem.Spec PyProof.Rows

/-! ### the parts of a slice -/
abbrev TO := St → Hp → (Option Int → Hp → Prop) → Prop
/-- a slice's part (left out, or an int) -/
def PO (X : Cx) (e : Option Expr) (t : TO) : Prop :=
  ∀ (pins : List (Addr × Obj)) (s : Shared) (σ : St) (H : Hp) (Q : Option Int → Hp → Prop), Inv X pins σ H s → t σ H Q →
    wpAny (model X.prog X.w) X.A (evalPart e X.env) (fun u s' => ∃ o H', Inv X pins σ H' s' ∧ IsPart u o ∧ Q o H') X.xe s
def tNoPart : TO := fun _ H Q => Q none H
def tPart (t : TE) : TO := fun σ H Q => t σ H fun x H1 => ∃ i, x = .int i ∧ Q (some i) H1

theorem intsAre_of {ns : List Int} : ∀ {us : List Value}, Vals (ns.map V.int) us → IntsAre us ns := by
  induction ns with
  | nil => intro us r; rw [List.map_nil] at r; cases r; exact .nil
  | cons n ns ih =>
    intro us r
    rw [List.map_cons] at r
    cases r with
    | cons r1 r2 =>
      obtain ⟨t, e⟩ := r1
      subst e
      exact .cons n t (ih r2)

section
variable {X : Cx} {e : Expr} {te : TE} {lo hi : Option Expr} {tl th : TO} {pos p2 : Pos}

theorem po_none : PO X none tNoPart := by
  intro pins s σ H Q I h
  rw [evalPart_none]
  exact wpAny_pure ⟨none, H, I, .none, h⟩
theorem po_some (h : PE X e te) : PO X (some e) (tPart te) := by
  intro pins s σ H Q I hw
  rw [evalPart_some]
  refine thn (h pins s σ H _ I hw) fun u s1 ⟨x, H1, I1, r1, q1⟩ => ?_
  obtain ⟨i, rfl, q⟩ := q1
  obtain ⟨t, rfl⟩ := r1
  exact ⟨some i, H1, I1, .int i t, q⟩

/-- what a slice of a value is, by values: the slice object stands at sl -/
def SlR (X : Cx) (r : V → Option Int → Option Int → Hp → VK → Prop) : Prop :=
  ∀ (pins : List (Addr × Obj)) (s : Shared) (σ : St) (H : Hp) (x : V) (v vl vu : Value) (lo hi : Option Int) (sl : Addr) (Q : VK), Inv X pins σ H s → RelV x v → s.heap.IsSliceOf sl vl vu .none → IsPart vl lo → IsPart vu hi → r x lo hi H Q →
    ∃ T id, typeLookup (.type T) "__getitem__" = pure (some (.builtin id)) ∧ s.TypeIs v T ∧ wpAny (model X.prog X.w) X.A (getItem v (.ref sl)) (EP X pins σ Q) X.xe s
theorem SlR.or {r r' : V → Option Int → Option Int → Hp → VK → Prop} (h : SlR X r) (h' : SlR X r') : SlR X (fun x lo hi H Q => r x lo hi H Q ∨ r' x lo hi H Q) := by
  intro pins s σ H x v vl vu lo hi sl Q I rx hs pl pu q
  rcases q with q | q
  · exact h pins s σ H x v vl vu lo hi sl Q I rx hs pl pu q
  · exact h' pins s σ H x v vl vu lo hi sl Q I rx hs pl pu q
def tSl (r : V → Option Int → Option Int → Hp → VK → Prop) (te : TE) (tl th : TO) : TE := fun σ H Q => te σ H fun x H1 => tl σ H1 fun l H2 => th σ H2 fun u H3 => r x l u H3 Q
/-- a[lo:hi], any a -/
theorem pe_slice {r : V → Option Int → Option Int → Hp → VK → Prop} (hr : SlR X r) (he : PE X e te) (hl : PO X lo tl) (hu : PO X hi th) : PE X (.Subscript e (.Slice lo hi none p2) pos) (tSl r te tl th) := by
  intro pins s σ H Q I h
  refine Subscript_ (thn (he pins s σ H _ I h) fun v s1 ⟨x, H1, I1, r1, q1⟩ => ?_)
  refine wpAny_Slice (thn (hl pins s1 σ H1 _ I1 q1) fun vl s2 ⟨l, H2, I2, pl, q2⟩ => thn (hu pins s2 σ H2 _ I2 q2) fun vu s3 ⟨u, H3, I3, pu, q3⟩ => ?_)
  rw [evalPart_none]
  refine wpAny_pure ?_
  have I4 : Inv X pins σ H3 { s3 with heap := s3.heap.push { cls := .type "slice", data := .fields #[vl, vu, .none] } } := I3.kept (t' := s3.toks) fun b ob q => Heap.get?_push_of_some _ q
  obtain ⟨T, id, hT, ht, hg⟩ := hr pins { s3 with heap := s3.heap.push { cls := .type "slice", data := .fields #[vl, vu, .none] } } σ H3 x v vl vu l u s3.heap.objs.size Q I4 r1 (Heap.IsSliceOf.new ..) pl pu q3
  show wpAny (model X.prog X.w) X.A (subscriptTail e (.Slice lo hi none p2) v (.ref s3.heap.objs.size)) (EP X pins σ Q) X.xe { s3 with heap := s3.heap.push { cls := .type "slice", data := .fields #[vl, vu, .none] } }
  exact tail_any (ops := [.ref s3.heap.objs.size, v]) ht hT hg (by with_unfolding_all rfl)

/-- the items of xs[lo:hi] -/
def cutV (xs : List V) (lo hi : Option Int) : List V := (xs.drop (HT.sIx xs.length 0 lo)).take (HT.sIx xs.length xs.length hi - HT.sIx xs.length 0 lo)
theorem cutV_length (xs : List V) (lo hi : Option Int) : (cutV xs lo hi).length ≤ xs.length := by
  unfold cutV
  rw [List.length_take, List.length_drop]
  omega
/-- t[lo:hi], not the whole of it (the whole would be t itself) -/
def rSlT (K : PySem.W.Frag) : V → Option Int → Option Int → Hp → VK → Prop := fun x lo hi H Q => ∃ a xs, x = .ref a ∧ SqT K H a xs ∧
  ¬ (HT.sIx xs.length 0 lo = 0 ∧ HT.sIx xs.length xs.length hi = xs.length) ∧ ∀ p, H p = none → Q (.ref p) (upd H p (.tup (cutV xs lo hi)))
theorem sl_tup : SlR X (rSlT X.K) := by
  intro pins s σ H x v vl vu lo hi sl Q I rx hs pl pu h
  obtain ⟨a, xs, rfl, hx, hw, q⟩ := h
  cases rx
  obtain ⟨its, r, ht, hz⟩ := I.tuple hx
  have hlen : its.toArray.size = xs.length := by rw [List.size_toArray]; exact r.length.symm
  refine ⟨"tuple", _, PyProof.Rows.slot_tuple_getitem.lookup, ht.typeIs, ?_⟩
  refine HT.getItem_tuple_cut ht hs pl pu (by rw [hlen]; exact hw) ?_ (by rw [hlen]; exact hz)
  rw [hlen]
  refine ⟨.ref s.heap.objs.size, _, I.laid (t' := s.toks) (o := .tup (cutV xs lo hi)) (fun b ob q => Heap.get?_push_of_some _ q) (Nat.le_refl _) ?_, rfl, q _ (I.hok.fresh (Nat.le_refl _))⟩
  exact ⟨Nat.le_trans (cutV_length xs lo hi) hz, _, (r.drop (HT.sIx xs.length 0 lo)).take (HT.sIx xs.length xs.length hi - HT.sIx xs.length 0 lo), IsTup.new _ _⟩

/-! ### t < u, t + u -/
def rLtT (K : PySem.W.Frag) : R2 := fun x y H Q => ∃ a b ns ms, x = .ref a ∧ y = .ref b ∧ SqT K H a (ns.map V.int) ∧ SqT K H b (ms.map V.int) ∧ Q (.bl (HT.lexLt ns ms)) H
theorem op_ltT (hu : X.A.units < cLine) : OpR X (compareOp .Lt) (rLtT X.K) := by
  intro pins s σ H x y v u Q I rx ry h
  obtain ⟨a, b, ns, ms, rfl, rfl, ha, hb, q⟩ := h
  cases rx
  cases ry
  obtain ⟨its, r1, p1, _⟩ := I.tuple ha
  obtain ⟨its2, r2, p2, _⟩ := I.tuple hb
  have i1 : IntsAre its.toArray.toList ns := intsAre_of r1
  have i2 : IntsAre its2.toArray.toList ms := intsAre_of r2
  exact HT.lt_tupInts p1 p2 i1 i2 hu ⟨.bl (HT.lexLt ns ms), H, I, rfl, q⟩
/-- t + u, t not empty: u empty gives t itself -/
def rCatT (K : PySem.W.Frag) : R2 := fun x y H Q => ∃ a b xs ys, x = .ref a ∧ y = .ref b ∧ SqT K H a xs ∧ SqT K H b ys ∧ xs ≠ [] ∧ xs.length + ys.length ≤ sizeLine ∧
  (ys = [] → Q (.ref a) H) ∧ (ys ≠ [] → ∀ p, H p = none → Q (.ref p) (upd H p (.tup (xs ++ ys))))
theorem Vals.nil_iff {xs : List V} {us : List Value} (r : Vals xs us) : us = [] ↔ xs = [] := by
  cases r with
  | nil => simp
  | cons _ _ => simp
theorem op_catT : OpR X (binaryOp .Add) (rCatT X.K) := by
  intro pins s σ H x y v u Q I rx ry h
  obtain ⟨a, b, xs, ys, rfl, rfl, ha, hb, hx, hz, q1, q2⟩ := h
  cases rx
  cases ry
  obtain ⟨its, r1, p1, _⟩ := I.tuple ha
  obtain ⟨its2, r2, p2, _⟩ := I.tuple hb
  refine HT.cat_tup p1 p2 (fun z => hx (r1.nil_iff.mp z)) (fun z => ⟨.ref a, H, I, rfl, q1 (r2.nil_iff.mp z)⟩) (fun z => ?_) (by rw [← r1.length, ← r2.length]; exact hz)
  refine ⟨.ref s.heap.objs.size, _, I.laid (t' := s.toks) (o := .tup (xs ++ ys)) (fun b ob q => Heap.get?_push_of_some _ q) (Nat.le_refl _) ?_, rfl, q2 (fun w => z (r2.nil_iff.mpr w)) _ (I.hok.fresh (Nat.le_refl _))⟩
  exact ⟨by rw [List.length_append]; exact hz, _, r1.append r2, IsTup.new _ _⟩
/-- tuple(t) -/
theorem call_tupleT : CallR X (.type "tuple") (fun xs H Q => ∃ a ys, xs = [.ref a] ∧ SqT X.K H a ys ∧ Q (.ref a) H) := by
  intro pins s σ H xs us Q I r h
  obtain ⟨a, ys, rfl, ha, q⟩ := h
  obtain ⟨u, rfl, ru⟩ := vals1 r
  cases ru
  obtain ⟨its, _, p1, _⟩ := I.tuple ha
  exact call_tuple_same (items := its.toArray) p1 ⟨.ref a, H, I, rfl, q⟩
end
end L2

namespace L2
open PySem PySem.Spec PyProof.Rows

/-! ### places -/
/-- the place that an index of any sign means -/
def ixN (n : Nat) (i : Int) : Option Nat := if 0 ≤ i then (if i < n then some i.toNat else none) else if -(n : Int) ≤ i then some (i + n).toNat else none
def atI {α : Type} (xs : List α) (i : Int) : Option α := (ixN xs.length i).bind fun j => xs[j]?
theorem ixN_seq {n : Nat} {i : Int} {j : Nat} (h : ixN n i = some j) : seqIndex? i n = some j ∧ j < n ∧ -(n : Int) ≤ i ∧ i < n := by
  unfold ixN at h
  by_cases h0 : 0 ≤ i
  · rw [if_pos h0] at h
    by_cases h1 : i < n
    · rw [if_pos h1] at h
      have e : i.toNat = j := Option.some.inj h
      exact ⟨by rw [seqIndex_of h0 h1, e], by omega, by omega, h1⟩
    · rw [if_neg h1] at h; cases h
  · rw [if_neg h0] at h
    by_cases h1 : -(n : Int) ≤ i
    · rw [if_pos h1] at h
      have e : (i + n).toNat = j := Option.some.inj h
      exact ⟨by rw [seqIndex_neg (by omega) h1, e], by omega, h1, by omega⟩
    · rw [if_neg h1] at h; cases h
theorem atI_get {α : Type} {xs : List α} {i : Int} {v : α} (h : atI xs i = some v) : ∃ j, seqIndex? i xs.length = some j ∧ xs[j]? = some v ∧ j < xs.length ∧ -(xs.length : Int) ≤ i ∧ i < xs.length := by
  unfold atI at h
  cases e : ixN xs.length i with
  | none => rw [e] at h; cases h
  | some j =>
    rw [e] at h
    obtain ⟨h1, h2, h3, h4⟩ := ixN_seq e
    exact ⟨j, h1, h, h2, h3, h4⟩
theorem atI_nat {α : Type} {xs : List α} {j : Nat} {v : α} (h : xs[j]? = some v) : atI xs (j : Int) = some v := by
  have hj : j < xs.length := (List.getElem?_eq_some_iff.mp h).1
  have e : ixN xs.length (j : Int) = some j := by
    unfold ixN
    rw [if_pos (by omega), if_pos (by omega)]; simp
  unfold atI; rw [e]; exact h
theorem atI_last {α : Type} (xs : List α) (v : α) : atI (xs ++ [v]) (-1) = some v := by
  have hl : (xs ++ [v]).length = xs.length + 1 := by simp
  have e : ixN (xs ++ [v]).length (-1) = some xs.length := by
    unfold ixN
    rw [hl, if_neg (by decide), if_pos (by omega)]
    congr 1
    omega
  unfold atI
  rw [e]
  show (xs ++ [v])[xs.length]? = some v
  simp

/-! ### what may be subscripted -/
/-- what stands as an index of a plain subscript -/
def PlainIx (b : Expr) : Prop := ∀ o i, subscripted b false o i = operate [o, i] (getItem o i)
/-- a subscript by values -/
def IxR (X : Cx) (r : R2) : Prop :=
  ∀ (value slice : Expr) (pins : List (Addr × Obj)) (s : Shared) (σ : St) (H : Hp) (x y : V) (v u : Value) (Q : VK), Inv X pins σ H s → RelV x v → RelV y u → r x y H Q →
    subscripted slice false v u = operate [v, u] (getItem v u) → wpAny (model X.prog X.w) X.A (subscriptTail value slice v u) (EP X pins σ Q) X.xe s
/-- a call of a builtin's method by values: the receiver, the arguments -/
def MtR (X : Cx) (id : String) (r : V → List V → Hp → VK → Prop) : Prop :=
  ∀ (pins : List (Addr × Obj)) (s : Shared) (σ : St) (H : Hp) (x : V) (xs : List V) (v : Value) (us : List Value) (Q : VK), Inv X pins σ H s → RelV x v → Vals xs us → r x xs H Q →
    wpAny (model X.prog X.w) X.A (call (.builtin id) (v :: us)) (EP X pins σ Q) X.xe s
section
variable {X : Cx} {a b : Expr} {ta tb : TE} {pos : Pos}
theorem IxR.or {r r' : R2} (h : IxR X r) (h' : IxR X r') : IxR X (fun x y H Q => r x y H Q ∨ r' x y H Q) := by
  intro value slice pins s σ H x y v u Q I rx ry q hs
  rcases q with q | q
  · exact h value slice pins s σ H x y v u Q I rx ry q hs
  · exact h' value slice pins s σ H x y v u Q I rx ry q hs
theorem MtR.or {id : String} {r r' : V → List V → Hp → VK → Prop} (h : MtR X id r) (h' : MtR X id r') : MtR X id (fun x xs H Q => r x xs H Q ∨ r' x xs H Q) := by
  intro pins s σ H x xs v us Q I rx rs q
  rcases q with q | q
  · exact h pins s σ H x xs v us Q I rx rs q
  · exact h' pins s σ H x xs v us Q I rx rs q
/-- a[b] -/
theorem pe_ix {r : R2} (hr : IxR X r) (ha : PE X a ta) (hb : PE X b tb) (hs : PlainIx b) : PE X (.Subscript a b pos) (tOp r ta tb) := by
  intro pins s σ H Q I h
  exact Subscript_ (binT ha hb I h fun v u s2 x y H2 I2 rx ry q => hr a b pins s2 σ H2 x y v u Q I2 rx ry q (hs _ _))

def rIxL (K : PySem.W.Frag) : R2 := fun x y H Q => ∃ p xs i v, x = .ref p ∧ y = .int i ∧ SqL K H p xs ∧ atI xs i = some v ∧ Q v H
def rIxT (K : PySem.W.Frag) : R2 := fun x y H Q => ∃ p xs i v, x = .ref p ∧ y = .int i ∧ SqT K H p xs ∧ atI xs i = some v ∧ Q v H
def rIxS : R2 := fun x y H Q => ∃ z i c, x = .str z ∧ y = .int i ∧ z.length ≤ sizeLine ∧ atI z.cps.toList i = some c ∧ Q (.str ⟨#[c]⟩) H
theorem ix_list : IxR X (rIxL X.K) := by
  intro value slice pins s σ H x y v u Q I rx ry h hs
  obtain ⟨p, xs, i, z, rfl, rfl, hq, he, q⟩ := h
  cases rx
  obtain ⟨t, rfl⟩ := ry
  obtain ⟨its, r, pl, hz⟩ := I.list hq
  obtain ⟨j, h1, h2, h3, h4, h5⟩ := atI_get he
  obtain ⟨w, ew, rw'⟩ := r.get h2
  have hl := r.length
  have hn := line63
  have fin : EP X pins σ Q w s := ⟨z, H, I, rw', q⟩
  by_cases h0 : 0 ≤ i
  · have hj : i.toNat = j := by
      rw [seqIndex_of h0 h5] at h1
      exact Option.some.inj h1
    exact item_listR pl.isList h0 (by omega) (by rw [hj]; simpa using ew) fin hs
  · have hj : (i + (its.toArray.size : Int)).toNat = j := by
      rw [seqIndex_neg (by omega) h4] at h1
      rw [List.size_toArray, ← hl]
      exact Option.some.inj h1
    exact subscriptTail_builtinR (x := w) pl.isList.typeIs slot_list_getitem.lookup
      (wpAny_getItem_list_neg (Q := fun r s' => r = w ∧ EP X pins σ Q r s') pl.isList (by omega) (by rw [List.size_toArray] <;> omega) (by omega) (by rw [hj]; simpa using ew) ⟨rfl, fin⟩) hs
theorem ix_tup : IxR X (rIxT X.K) := by
  intro value slice pins s σ H x y v u Q I rx ry h hs
  obtain ⟨p, xs, i, z, rfl, rfl, hq, he, q⟩ := h
  cases rx
  obtain ⟨t, rfl⟩ := ry
  obtain ⟨its, r, pl, hz⟩ := I.tuple hq
  obtain ⟨j, h1, h2, h3, h4, h5⟩ := atI_get he
  obtain ⟨w, ew, rw'⟩ := r.get h2
  have hl := r.length
  have hn := line63
  have fin : EP X pins σ Q w s := ⟨z, H, I, rw', q⟩
  exact subscriptTail_builtinR (x := w) pl.typeIs slot_tuple_getitem.lookup
    (getItem_tuple (j := j) (Q := fun r s' => r = w ∧ EP X pins σ Q r s') pl (by omega) (by omega) (by rw [List.size_toArray, ← hl]; exact h1) (by simpa using ew) ⟨rfl, fin⟩) hs
theorem ix_str : IxR X rIxS := by
  intro value slice pins s σ H x y v u Q I rx ry h hs
  obtain ⟨z, i, c, rfl, rfl, hz, he, q⟩ := h
  obtain ⟨t, rfl⟩ := rx
  obtain ⟨t', rfl⟩ := ry
  obtain ⟨j, h1, h2, h3, h4, h5⟩ := atI_get he
  have hl : z.cps.toList.length = z.length := by simp [Str.length]
  rw [hl] at h1 h4 h5
  have hn := line63
  exact tail_any (typeIs_str s z t) slot_str_getitem.lookup (getItem_str (c := c) (by
    have e1 : decide (i < -(2 ^ 63 : Int)) = false := decide_eq_false (by omega)
    have e2 : decide (i ≥ 2 ^ 63) = false := decide_eq_false (by omega)
    rw [e1, e2, Bool.or_false]) (by rw [h1]; simpa using h2) ⟨.str ⟨#[c]⟩, H, I.tok _, ⟨_, rfl⟩, q⟩) hs
/-- list, tuple or str -/
def rIx (K : PySem.W.Frag) : R2 := fun x y H Q => rIxL K x y H Q ∨ rIxT K x y H Q ∨ rIxS x y H Q
theorem ix_seq : IxR X (rIx X.K) := ix_list.or (ix_tup.or ix_str)

/-! ### xs[i] = v, any sign -/
/-- the list's object behind a store -/
theorem mapSeq_set (its : List Value) (n j : Nat) (u : Value) : Obj.mapSeq (·.setIfInBounds j u) { cls := .type "list", data := .seq its.toArray n } = { cls := .type "list", data := .seq (its.set j u).toArray n } := by
  simp [Obj.mapSeq]
theorem Inv.lst {pins : List (Addr × Obj)} {σ : St} {H : Hp} {s : Shared} {p : Addr} {xs : List V} (I : Inv X pins σ H s) (h : H p = some (.lst xs)) :
    ∃ (its : List Value) (n : Nat), Vals xs its ∧ s.heap.get? p = some { cls := .type "list", data := .seq its.toArray n } ∧ xs.length ≤ sizeLine := by
  obtain ⟨z, its, n, r, e⟩ := I.hok p _ h
  exact ⟨its, n, r, e, z⟩
/-- the list at p is written by an update of its object -/
theorem Inv.lstUpd {pins : List (Addr × Obj)} {σ : St} {H : Hp} {s : Shared} {p : Addr} {xs ys : List V} {its its' : List Value} {n n' : Nat} {f : Obj → Obj} (I : Inv X pins σ H s) (h : H p = some (.lst xs))
    (ho : s.heap.get? p = some { cls := .type "list", data := .seq its.toArray n }) (hf : f { cls := .type "list", data := .seq its.toArray n } = { cls := .type "list", data := .seq its'.toArray n' }) (r : Vals ys its') (hz : ys.length ≤ sizeLine) (t : Nat) :
    Inv X pins σ (upd H p (.lst ys)) { s with heap := s.heap.update p f, toks := t } := by
  have e : (s.heap.update p f).get? p = some { cls := .type "list", data := .seq its'.toArray n' } := by
    rw [Heap.get?_update_self f ho (by rw [hf] <;> rfl), hf]
  refine I.write (x := p) (e := p) (by rw [h]; trivial) (.inl rfl) (fun b u hb q => (Heap.get?_update_other _ _ (Ne.symm hb)).trans q) ⟨_, e⟩ ?_
  exact ⟨hz, its', n', r, e⟩
def rSetL : V → V → V → Hp → (Hp → Prop) → Prop := fun o i v H Q => ∃ p xs k j, o = .ref p ∧ i = .int k ∧ H p = some (.lst xs) ∧ ixN xs.length k = some j ∧ Q (upd H p (.lst (xs.set j v)))
theorem set_list : PSet X rSetL := by
  intro pins s σ H o i v ov iv u Q I ro ri rv h
  obtain ⟨p, xs, k, j, rfl, rfl, hp, hj, q⟩ := h
  cases ro
  obtain ⟨t, rfl⟩ := ri
  obtain ⟨its, n, r, ho, hz⟩ := I.lst hp
  obtain ⟨h1, h2, h3, h4⟩ := ixN_seq hj
  have hl := r.length
  have hn := line63
  have I' : Inv X pins σ (upd H p (.lst (xs.set j v))) { s with heap := s.heap.update p (Obj.mapSeq (·.setIfInBounds j u)) } :=
    I.lstUpd hp ho (mapSeq_set its n j u) (r.set rv j) (by rw [List.length_set]; exact hz) s.toks
  by_cases h0 : 0 ≤ k
  · have hk : k.toNat = j := by
      rw [seqIndex_of h0 h4] at h1
      exact Option.some.inj h1
    exact PySem.W.ki_setAt ho h0 (by omega) (by rw [List.size_toArray, ← hl]; exact h4) (by rw [hk]; exact ⟨_, I', q⟩)
  · have hk : (k + (its.toArray.size : Int)).toNat = j := by
      rw [seqIndex_neg (by omega) h3] at h1
      rw [List.size_toArray, ← hl]
      exact Option.some.inj h1
    exact PySem.W.ki_setBack ho (by omega) (by rw [List.size_toArray, ← hl]; exact h3) (by omega) (by rw [hk]; exact ⟨_, I', q⟩)

/-! ### slices -/
theorem slice_bounds (lo hi : Option Int) (n : Nat) : (sliceBounds lo hi none n).1 = ((HT.sIx n 0 lo : Nat) : Int) ∧ (sliceBounds lo hi none n).2.1 = ((HT.sIx n n hi : Nat) : Int) ∧ (sliceBounds lo hi none n).2.2 = 1 := by
  refine ⟨?_, ?_, rfl⟩
  · cases lo with
    | none => simp [sliceBounds, HT.sIx]
    | some i =>
      simp only [sliceBounds, HT.sIx, Option.getD_none, show (1 : Int) > 0 by decide, if_true]
      by_cases h : i < 0
      · simp only [h, if_true] <;> omega
      · simp only [h, if_false] <;> omega
  · cases hi with
    | none => simp [sliceBounds, HT.sIx]
    | some i =>
      simp only [sliceBounds, HT.sIx, Option.getD_none, show (1 : Int) > 0 by decide, if_true]
      by_cases h : i < 0
      · simp only [h, if_true] <;> omega
      · simp only [h, if_false] <;> omega
theorem slicePick_cut (its : List Value) (lo hi : Option Int) : slicePick its.toArray lo hi none = ((its.drop (HT.sIx its.length 0 lo)).take (HT.sIx its.length its.length hi - HT.sIx its.length 0 lo)).toArray := by
  obtain ⟨h1, h2, h3⟩ := slice_bounds lo hi its.toArray.size
  unfold slicePick
  rw [h1, h2, h3]
  simp only [sliceRange_one, pick_run, List.size_toArray] <;> rfl
/-- xs[lo:hi] of a list: a new list -/
def rSlL (K : PySem.W.Frag) : V → Option Int → Option Int → Hp → VK → Prop := fun x lo hi H Q => ∃ a xs, x = .ref a ∧ SqL K H a xs ∧ ∀ p, H p = none → Q (.ref p) (upd H p (.lst (cutV xs lo hi)))
theorem sl_list : SlR X (rSlL X.K) := by
  intro pins s σ H x v vl vu lo hi sl Q I rx hs pl pu h
  obtain ⟨a, xs, rfl, hx, q⟩ := h
  cases rx
  obtain ⟨its, r, ht, hz⟩ := I.list hx
  have hlen := r.length
  refine ⟨"list", _, slot_list_getitem.lookup, ht.isList.typeIs, ?_⟩
  refine wpAny_getItem_list_slice ht.isList hs pl pu .none (by simp) ?_ (by rw [List.size_toArray] <;> omega)
  rw [slicePick_cut, ← hlen]
  refine ⟨.ref s.heap.objs.size, _, I.laid (t' := s.toks) (o := .lst (cutV xs lo hi)) (fun b ob q => Heap.get?_push_of_some _ q) (Nat.le_refl _) ?_, rfl, q _ (I.hok.fresh (Nat.le_refl _))⟩
  exact ⟨Nat.le_trans (cutV_length xs lo hi) hz, _, 0, (r.drop (HT.sIx xs.length 0 lo)).take (HT.sIx xs.length xs.length hi - HT.sIx xs.length 0 lo), Heap.get?_push_size _ rfl⟩

/-! ### in, not in: flat items -/
def flatV : V → Bool
  | .non => true
  | .bl _ => true
  | .int _ => true
  | .str _ => true
  | _ => false
/-- == of flat values -/
def eqV : V → V → Bool
  | .non, .non => true
  | .bl a, .bl b => a == b
  | .bl a, .int b => (if a then 1 else 0) == b
  | .int a, .bl b => a == (if b then 1 else 0)
  | .int a, .int b => a == b
  | .str a, .str b => a == b
  | _, _ => false
theorem eqAt_V {A : Around} {s : Shared} {y x : V} {u v : Value} (ry : RelV y u) (rx : RelV x v) (fy : flatV y = true) (fx : flatV x = true) : SeqAt.EqAt A s u v (eqV y x) := by
  cases y with
  | non =>
    cases ry
    cases x with
    | non => cases rx; exact SeqAt.EqAt.same _
    | bl b => cases rx; exact SeqAt.EqAt.none_bool b
    | int b => obtain ⟨t, rfl⟩ := rx; exact SeqAt.EqAt.none_int b t
    | str b => obtain ⟨t, rfl⟩ := rx; exact SeqAt.EqAt.none_str b t
    | _ => exact absurd (show false = true from fx) Bool.false_ne_true
  | bl a =>
    cases ry
    cases x with
    | non => cases rx; exact SeqAt.EqAt.bool_none a
    | bl b => cases rx; exact SeqAt.EqAt.bool_bool a b
    | int b => obtain ⟨t, rfl⟩ := rx; exact SeqAt.EqAt.bool_int a b t
    | str b => obtain ⟨t, rfl⟩ := rx; exact SeqAt.EqAt.bool_str a b t
    | _ => exact absurd (show false = true from fx) Bool.false_ne_true
  | int a =>
    obtain ⟨t', rfl⟩ := ry
    cases x with
    | non => cases rx; exact SeqAt.EqAt.int_none a t'
    | bl b => cases rx; exact SeqAt.EqAt.int_bool a t' b
    | int b => obtain ⟨t, rfl⟩ := rx; exact SeqAt.EqAt.int_int a t' b t
    | str b => obtain ⟨t, rfl⟩ := rx; exact SeqAt.EqAt.int_str a t' b t
    | _ => exact absurd (show false = true from fx) Bool.false_ne_true
  | str a =>
    obtain ⟨t', rfl⟩ := ry
    cases x with
    | non => cases rx; exact SeqAt.EqAt.str_none a t'
    | bl b => cases rx; exact SeqAt.EqAt.str_bool a t' b
    | int b => obtain ⟨t, rfl⟩ := rx; exact SeqAt.EqAt.str_int a t' b t
    | str b => obtain ⟨t, rfl⟩ := rx; exact SeqAt.EqAt.str_str a t' b t
    | _ => exact absurd (show false = true from fx) Bool.false_ne_true
  | _ => exact absurd (show false = true from fy) Bool.false_ne_true
/-- the items' answers, read off the values (a value's own answer does not lean on its token) -/
def eqU (x : V) (u : Value) : Bool := match u with
  | .none => eqV .non x
  | .bool b => eqV (.bl b) x
  | .int i _ => eqV (.int i) x
  | .str z _ => eqV (.str z) x
  | _ => false
theorem eqU_of {x y : V} {u : Value} (r : RelV y u) (f : flatV y = true) : eqU x u = eqV y x := by
  cases y with
  | non => cases r; rfl
  | bl b => cases r; rfl
  | int i => obtain ⟨t, rfl⟩ := r; rfl
  | str z => obtain ⟨t, rfl⟩ := r; rfl
  | _ => exact absurd (show false = true from f) Bool.false_ne_true
theorem any_eqU {x : V} : ∀ {xs : List V} {us : List Value}, Vals xs us → xs.all flatV = true → us.any (eqU x) = xs.any fun y => eqV y x
  | _, _, .nil, _ => rfl
  | y :: xs, u :: us, .cons r t, f => by
    rw [List.all_cons, Bool.and_eq_true] at f
    rw [List.any_cons, List.any_cons, eqU_of r f.1, any_eqU t f.2]
theorem mem_eqAt {A : Around} {s : Shared} {x : V} {v : Value} (rx : RelV x v) (fx : flatV x = true) : ∀ {xs : List V} {us : List Value}, Vals xs us → xs.all flatV = true → ∀ u ∈ us, SeqAt.EqAt A s u v (eqU x u)
  | _, _, .nil, _ => fun u hu => by cases hu
  | y :: xs, u :: us, .cons r t, f => fun u' hu => by
    rw [List.all_cons, Bool.and_eq_true] at f
    rcases List.mem_cons.mp hu with rfl | hu
    · rw [eqU_of r f.1]; exact eqAt_V r rx f.1 fx
    · exact mem_eqAt rx fx t f.2 u' hu
def inV (x : V) (xs : List V) : Bool := xs.any fun y => eqV y x
/-- x in a list or tuple of flat items -/
def rIn (K : PySem.W.Frag) (neg : Bool) : R2 := fun x y H Q => ∃ p xs, y = .ref p ∧ (SqL K H p xs ∨ SqT K H p xs) ∧ flatV x = true ∧ xs.all flatV = true ∧ Q (.bl (if neg then !inV x xs else inV x xs)) H
theorem op_in_seq : OpR X (compareOp .In) (rIn X.K false) := by
  intro pins s σ H x y v u Q I rx ry h
  obtain ⟨p, xs, rfl, hq, fx, fs, q⟩ := h
  cases ry
  rcases hq with hq | hq
  · obtain ⟨its, r, pl, hz⟩ := I.list hq
    refine SeqAt.in_listAt (eqU x) pl.isList (fun w hw => mem_eqAt rx fx r fs w (by simpa using hw)) ⟨.bl _, H, I, rfl, ?_⟩
    rw [show its.toArray.any (eqU x) = its.any (eqU x) by simp, any_eqU r fs]
    exact q
  · obtain ⟨its, r, pl, hz⟩ := I.tuple hq
    refine SeqAt.in_tupleAt (eqU x) pl (fun w hw => mem_eqAt rx fx r fs w (by simpa using hw)) ⟨.bl _, H, I, rfl, ?_⟩
    rw [show its.toArray.any (eqU x) = its.any (eqU x) by simp, any_eqU r fs]
    exact q
theorem op_notIn_seq : OpR X (compareOp .NotIn) (rIn X.K true) := by
  intro pins s σ H x y v u Q I rx ry h
  obtain ⟨p, xs, rfl, hq, fx, fs, q⟩ := h
  cases ry
  rcases hq with hq | hq
  · obtain ⟨its, r, pl, hz⟩ := I.list hq
    refine SeqAt.notIn_listAt (eqU x) pl.isList (fun w hw => mem_eqAt rx fx r fs w (by simpa using hw)) ⟨.bl _, H, I, rfl, ?_⟩
    rw [show its.toArray.any (eqU x) = its.any (eqU x) by simp, any_eqU r fs]
    exact q
  · obtain ⟨its, r, pl, hz⟩ := I.tuple hq
    refine SeqAt.notIn_tupleAt (eqU x) pl (fun w hw => mem_eqAt rx fx r fs w (by simpa using hw)) ⟨.bl _, H, I, rfl, ?_⟩
    rw [show its.toArray.any (eqU x) = its.any (eqU x) by simp, any_eqU r fs]
    exact q
theorem op_notIn_str : OpR X (compareOp .NotIn) (fun x y H Q => ∃ i j, x = .str i ∧ y = .str j ∧ Q (.bl (!(!(Builtin.Str.occurrences j i 0 j.length 1).isEmpty))) H) := by
  intro pins s σ H x y v u Q I rx ry h
  obtain ⟨i, j, rfl, rfl, q⟩ := h
  obtain ⟨t, rfl⟩ := rx
  obtain ⟨t', rfl⟩ := ry
  exact notIn_str ⟨.bl _, H, I, rfl, q⟩

/-! ### len, list(x), tuple(x) of any list or tuple that is read -/
theorem call_len_seq : CallR X (.builtin "len") (fun xs H Q => ∃ p ys, xs = [.ref p] ∧ (SqL X.K H p ys ∨ SqT X.K H p ys) ∧ Q (.int ys.length) H) := by
  intro pins s σ H xs us Q I r h
  obtain ⟨p, ys, rfl, hq, q⟩ := h
  obtain ⟨u, rfl, rx⟩ := vals1 r
  cases rx
  have hn := line63
  rcases hq with hq | hq
  · obtain ⟨its, r', pl, hz⟩ := I.list hq
    have hlen := r'.length
    exact Calls.call_len_list pl.isList (by simp only [List.size_toArray] <;> omega) ⟨.int ys.length, H, I.tok _, ⟨s.toks + 1, by rw [List.size_toArray, hlen]⟩, q⟩
  · obtain ⟨its, r', pl, hz⟩ := I.tuple hq
    have hlen := r'.length
    exact len_tuple pl (by simp only [List.size_toArray] <;> omega) ⟨.int ys.length, H, I.tok _, ⟨s.toks + 1, by rw [List.size_toArray, hlen]⟩, q⟩
theorem call_len_str : CallR X (.builtin "len") (fun xs H Q => ∃ z, xs = [.str z] ∧ z.length ≤ sizeLine ∧ Q (.int z.length) H) := by
  intro pins s σ H xs us Q I r h
  obtain ⟨z, rfl, hz, q⟩ := h
  obtain ⟨u, rfl, t, rfl⟩ := vals1 r
  have hn := line63
  exact len_str (by omega) ⟨.int z.length, H, I.tok _, ⟨_, rfl⟩, q⟩
theorem CallR.or {f : Value} {r r' : List V → Hp → VK → Prop} (h : CallR X f r) (h' : CallR X f r') : CallR X f (fun xs H Q => r xs H Q ∨ r' xs H Q) := by
  intro pins s σ H xs us Q I rs q
  rcases q with q | q
  · exact h pins s σ H xs us Q I rs q
  · exact h' pins s σ H xs us Q I rs q
theorem call_list_of : CallR X (.type "list") (fun xs H Q => ∃ p ys, xs = [.ref p] ∧ (SqL X.K H p ys ∨ SqT X.K H p ys) ∧ ∀ l, H l = none → Q (.ref l) (upd H l (.lst ys))) := by
  intro pins s σ H xs us Q I r h
  obtain ⟨p, ys, rfl, hq, q⟩ := h
  obtain ⟨u, rfl, rx⟩ := vals1 r
  cases rx
  have fin : ∀ (its : List Value), Vals ys its → ys.length ≤ sizeLine → ∀ (h' : Heap) (c' : Nat), (∀ b o', s.heap.get? b = some o' → h'.get? b = some o') →
      h'.get? s.heap.objs.size = some { cls := .type "list", dict := none, data := .seq its.toArray c', slots := #[] } → EP X pins σ Q (.ref s.heap.objs.size) { s with heap := h' } := fun its r' hz h' c' kp e =>
    ⟨.ref s.heap.objs.size, _, I.laid (t' := s.toks) kp (Nat.le_refl _) (show ObjOk X.prog X.w _ h' _ (.lst ys) from ⟨hz, its, c', r', e⟩), rfl, q _ (I.hok.fresh (Nat.le_refl _))⟩
  rcases hq with hq | hq
  · obtain ⟨its, r', pl, hz⟩ := I.list hq
    have hlen := r'.length
    obtain ⟨o, ho, hc, n, hd⟩ := pl.isList
    exact call_list_seq p (.inl rfl) ho hc hd (fun h' c' kp e => fin its r' hz h' c' kp e) (by simp only [List.size_toArray] <;> omega)
  · obtain ⟨its, r', pl, hz⟩ := I.tuple hq
    have hlen := r'.length
    obtain ⟨o, ho, hc, n, hd⟩ := pl
    exact call_list_seq p (.inr rfl) ho hc hd (fun h' c' kp e => fin its r' hz h' c' kp e) (by simp only [List.size_toArray] <;> omega)
theorem call_tuple_of : CallR X (.type "tuple") (fun xs H Q => ∃ p ys, xs = [.ref p] ∧ ((SqL X.K H p ys ∧ ∀ l, H l = none → Q (.ref l) (upd H l (.tup ys))) ∨ (SqT X.K H p ys ∧ Q (.ref p) H))) := by
  intro pins s σ H xs us Q I r h
  obtain ⟨p, ys, rfl, h⟩ := h
  obtain ⟨u, rfl, rx⟩ := vals1 r
  cases rx
  rcases h with ⟨hq, q⟩ | ⟨hq, q⟩
  · obtain ⟨its, r', pl, hz⟩ := I.list hq
    have hlen := r'.length
    refine call_tuple_list pl.isList (fun h' kp => ?_) (by simp only [List.size_toArray] <;> omega)
    have I1 : Inv X pins σ H { s with heap := h' } := I.kept (t' := s.toks) kp
    have I2 : Inv X pins σ (upd H h'.objs.size (.tup ys)) { s with heap := h'.push { cls := .type "tuple", data := .seq its.toArray } } :=
      I1.laid (t' := s.toks) (fun b o e => Heap.get?_push_of_some _ e) (Nat.le_refl _) (show ObjOk X.prog X.w _ _ _ (.tup ys) from ⟨hz, its, r', IsTup.new _ _⟩)
    exact ⟨.ref h'.objs.size, _, I2, rfl, q _ (I1.hok.fresh (Nat.le_refl _))⟩
  · obtain ⟨its, r', pl, hz⟩ := I.tuple hq
    exact call_tuple_same pl ⟨.ref p, H, I, rfl, q⟩

/-! ### the call of a builtin's method: o.m(..) -/
/-- the value is of that builtin type -/
def tyV (K : PySem.W.Frag) (T : String) (x : V) (H : Hp) : Prop := match x with
  | .str _ => T = "str"
  | .int _ => T = "int"
  | .ref p => (T = "list" ∧ ∃ xs, SqL K H p xs) ∨ (T = "tuple" ∧ ∃ o, K.lookup p = some o ∧ o.cls = .type "tuple" ∧ o.dict = none) ∨
      (T = "dict" ∧ ((∃ kvs, H p = some (.dK kvs)) ∨ ∃ kvs, H p = some (.dT kvs))) ∨ (T = "set" ∧ ∃ S n, H p = some (.set S n))
  | _ => False
theorem tyV_is {pins : List (Addr × Obj)} {σ : St} {H : Hp} {s : Shared} {T : String} {x : V} {v : Value} (I : Inv X pins σ H s) (r : RelV x v) (ty : tyV X.K T x H) :
    s.TypeIs v T ∧ ∀ a, v = .ref a → ∃ ob, s.heap.get? a = some ob ∧ ob.dict = none := by
  cases x with
  | str z =>
    obtain ⟨t, rfl⟩ := r
    cases (show T = "str" from ty)
    exact ⟨typeIs_str s z t, fun _ e => nomatch e⟩
  | int i =>
    obtain ⟨t, rfl⟩ := r
    cases (show T = "int" from ty)
    exact ⟨typeIs_int s i t, fun _ e => nomatch e⟩
  | ref p =>
    cases r
    rcases ty with ⟨rfl, xs, hq⟩ | ⟨rfl, o, hk, hc, hd⟩ | ⟨rfl, hk⟩ | ⟨rfl, S, n, hk⟩
    · obtain ⟨its, _, pl, _⟩ := I.list hq
      refine ⟨pl.isList.typeIs, fun a e => ?_⟩
      cases e
      obtain ⟨o, n, e, c, hd, _⟩ := pl
      exact ⟨o, e, hd⟩
    · refine ⟨⟨o, I.kIn p o hk, hc⟩, fun a e => ?_⟩
      cases e
      exact ⟨o, I.kIn _ o hk, hd⟩
    · have z : ∃ o, s.heap.get? p = some o ∧ o.ExactDict := by
        rcases hk with ⟨kvs, hk⟩ | ⟨kvs, hk⟩
        · obtain ⟨_, _, _, _, o, _, _, e, ex, _⟩ := I.hok p _ hk
          exact ⟨o, e, ex⟩
        · obtain ⟨_, _, _, _, o, _, _, e, ex, _⟩ := I.hok p _ hk
          exact ⟨o, e, ex⟩
      obtain ⟨o, e, ex⟩ := z
      refine ⟨⟨o, e, ex.1⟩, fun a e2 => ?_⟩
      cases e2
      exact ⟨o, e, ex.2.1⟩
    · obtain ⟨o, _, _, _, e, ex, _⟩ := I.hok p _ hk
      refine ⟨⟨o, e, ex.1⟩, fun a e2 => ?_⟩
      cases e2
      exact ⟨o, e, ex.2.1⟩
  | _ => exact False.elim ty
def tBM0 (K : PySem.W.Frag) (T : String) (r : V → List V → Hp → VK → Prop) (to : TE) : TE := fun σ H Q => to σ H fun x H1 => tyV K T x H1 ∧ r x [] H1 Q
def tBM (K : PySem.W.Frag) (T : String) (r : V → List V → Hp → VK → Prop) (to : TE) (t : TA) : TE := fun σ H Q => to σ H fun x H1 => tyV K T x H1 ∧ t σ H1 fun xs H2 => r x xs H2 Q
variable {o e : Expr} {es : List Expr} {to : TE} {t : TA} {name : Str} {apos cpos : Pos} {T id : String} {r : V → List V → Hp → VK → Prop}
theorem pe_bm0 (pa : PlainAttrs T) (slot : Slot T name id) (hty : typeOf (.builtin id) = pure (.type "method_descriptor")) (hm : MtR X id r) (ho : PE X o to)
    (hbase : attributeBase o name X.env (eval o X.env) = eval o X.env := by rfl) (hline : (apos.endLine == cpos.line) = true := by rfl) : PE X (.Call (.Attribute o name apos) [] [] cpos) (tBM0 X.K T r to) := by
  intro pins s σ H Q I h
  refine wpAny_Call_method0_late hbase hline (thn (ho pins s σ H _ I h) fun v s1 ⟨x, H1, I1, r1, ty, q1⟩ => ?_)
  obtain ⟨h1, h2⟩ := tyV_is I1 r1 ty
  exact ⟨T, id, pa, slot, hty, h1, h2, Calls.callWith_builtin rfl (PySem.evalArgs_none (hm pins s1 σ H1 x [] v [] Q I1 r1 .nil q1))⟩
theorem pe_bm (pa : PlainAttrs T) (slot : Slot T name id) (hty : typeOf (.builtin id) = pure (.type "method_descriptor")) (hm : MtR X id r) (ho : PE X o to) (ha : PA X (e :: es) t)
    (hbase : attributeBase o name X.env (eval o X.env) = eval o X.env := by rfl)
    (hfew : ((backTo cpos (starEach (e :: es) X.env)).all (fun x => !x.1) && (backToKw cpos (keywordEach [] X.env)).all (fun x => x.1.isSome)
      && decide ((e :: es).length + ([] : List Keyword).length + (if ([] : List Keyword).isEmpty then 0 else 1) < 30)) = true := by rfl)
    (hline : (apos.endLine == cpos.line) = true := by rfl) (hs : starEach (e :: es) X.env = (false, eval e X.env) :: starEach es X.env := by rfl) (hplain : (backTo cpos (starEach es X.env)).any (·.1) = false := by rfl) :
    PE X (.Call (.Attribute o name apos) (e :: es) [] cpos) (tBM X.K T r to t) := by
  intro pins s σ H Q I h
  refine wpAny_Call_method_late hbase hfew hline rfl (thn (ho pins s σ H _ I h) fun v s1 ⟨x, H1, I1, r1, ty, q1⟩ => ?_)
  obtain ⟨h1, h2⟩ := tyV_is I1 r1 ty
  refine ⟨T, id, pa, slot, hty, h1, h2, ?_⟩
  have hA := ha cpos pins s1 σ H1 _ I1 q1
  rw [hs] at hA ⊢
  refine Calls.callWith_builtin (by show (false || (backTo cpos (starEach es X.env)).any (·.1)) = false; rw [hplain] <;> rfl) (Calls.evalArgs_plain ?_)
  exact thn hA fun us s2 ⟨vs, H2, I2, r2, q2⟩ => hm pins s2 σ H2 x vs v us Q I2 r1 r2 q2
/- xs.append(e), list.index on a module's tuple .. are MtR facts of 06m -/
end
end L2

namespace L2
open PySem PySem.Spec PyProof.Rows

def MtM (X : Cx) (id : String) (r : V → List V → Hp → VK → Prop) : Prop :=
  ∀ (pins : List (Addr × Obj)) (s : Shared) (σ : St) (H : Hp) (x : V) (xs : List V) (v : Value) (us : List Value) (Q : VK), Inv X pins σ H s → RelV x v → Vals xs us → r x xs H Q →
    wpAny (model X.prog X.w) X.A (call (.builtin id) (v :: us)) (EP X pins σ Q) X.xe s

/-! ### lists of values -/
theorem Vals.one : ∀ {x : V} {us : List Value}, Vals [x] us → ∃ u, us = [u] ∧ RelV x u
  | _, _, .cons r .nil => ⟨_, rfl, r⟩
theorem Vals.two : ∀ {x y : V} {us : List Value}, Vals [x, y] us → ∃ u v, us = [u, v] ∧ RelV x u ∧ RelV y v
  | _, _, _, .cons r (.cons q .nil) => ⟨_, _, rfl, r, q⟩
theorem Vals.zero : ∀ {us : List Value}, Vals [] us → us = []
  | _, .nil => rfl
theorem Vals.dropLast {xs : List V} {us : List Value} (h : Vals xs us) : Vals xs.dropLast us.dropLast := by
  induction h with
  | nil => exact .nil
  | cons r t ih =>
    cases t with
    | nil => exact .nil
    | cons q t' => exact .cons r ih
theorem Vals.eraseIdx : ∀ {xs : List V} {us : List Value} (i : Nat), Vals xs us → Vals (xs.eraseIdx i) (us.eraseIdx i)
  | _, _, _, .nil => .nil
  | _, _, 0, .cons _ t => t
  | _, _, i + 1, .cons r t => .cons r (Vals.eraseIdx i t)
theorem Vals.reverse {xs : List V} {us : List Value} (h : Vals xs us) : Vals xs.reverse us.reverse := by
  induction h with
  | nil => exact .nil
  | cons r t ih => rw [List.reverse_cons, List.reverse_cons]; exact Vals.append ih (.cons r .nil)
theorem Vals.rep {xs : List V} {us : List Value} (h : Vals xs us) : ∀ k : Nat, Vals (List.replicate k xs).flatten (List.replicate k us).flatten
  | 0 => .nil
  | k + 1 => by
    rw [List.replicate_succ, List.replicate_succ, List.flatten_cons, List.flatten_cons]
    exact Vals.append h (Vals.rep h k)
theorem erase_last {α : Type} (l : List α) : l.eraseIdx (l.length - 1) = l.dropLast := by
  induction l with
  | nil => rfl
  | cons a r ih =>
    cases r with
    | nil => rfl
    | cons b r =>
      have e : (a :: b :: r).length - 1 = ((b :: r).length - 1) + 1 := by
        have h1 : (a :: b :: r).length = r.length + 2 := rfl
        have h2 : (b :: r).length = r.length + 1 := rfl
        omega
      rw [e, List.eraseIdx_cons_succ, ih]
      all_goals rfl
theorem len_erase {α : Type} : ∀ (l : List α) (i : Nat), (l.eraseIdx i).length ≤ l.length
  | [], _ => Nat.le_refl _
  | _ :: _, 0 => Nat.le_succ _
  | _ :: r, i + 1 => Nat.succ_le_succ (len_erase r i)
theorem foldl_rep (its : List Value) : ∀ (k : Nat) (acc : List Value),
    List.foldl (fun x1 x2 => x1 ++ x2) acc.toArray (List.replicate k its.toArray) = (acc ++ (List.replicate k its).flatten).toArray
  | 0, acc => by simp
  | k + 1, acc => by
    have e : acc.toArray ++ its.toArray = (acc ++ its).toArray := by simp
    have e2 : (acc ++ its) ++ (List.replicate k its).flatten = acc ++ (List.replicate (k + 1) its).flatten := by
      rw [List.replicate_succ, List.flatten_cons, List.append_assoc]
    rw [← e2, ← foldl_rep its k (acc ++ its), ← e, List.replicate_succ, List.foldl_cons]

section
variable {X : Cx} {pins : List (Addr × Obj)} {σ : St} {H : Hp} {s : Shared} {l b : Addr} {xs ys zs : List V}

/-! ### the two steps: a tracked list is rewritten, a new list is laid -/
theorem Inv.lset {its its' : List Value} {n : Nat} {f : Array Value → Array Value} {t' : Nat} (I : Inv X pins σ H s) (hH : H l = some (.lst xs))
    (e : s.heap.get? l = some { cls := .type "list", data := .seq its.toArray n }) (hf : f its.toArray = its'.toArray) (hv : Vals ys its') (hz : ys.length ≤ sizeLine) :
    Inv X pins σ (upd H l (.lst ys)) { s with heap := s.heap.update l (Obj.mapSeq f), toks := t' } := by
  have q := PySem.IsL.update e f
  rw [hf] at q
  refine I.write (x := l) (e := l) (by rw [hH]; exact trivial) (.inl rfl) (fun b' u hb hu => (Heap.get?_update_other s.heap (Obj.mapSeq f) (Ne.symm hb)).trans hu) ⟨_, q⟩ ?_
  exact ⟨hz, its', _, hv, q⟩
theorem Inv.lnew {its : List Value} {t' : Nat} (I : Inv X pins σ H s) (hv : Vals ys its) (hz : ys.length ≤ sizeLine) :
    Inv X pins σ (upd H s.heap.objs.size (.lst ys)) { s with heap := s.heap.push { cls := .type "list", data := .seq its.toArray }, toks := t' } :=
  I.laid (fun _ _ q => Heap.get?_push_of_some _ q) (Nat.le_refl _) ⟨hz, its, 0, hv, Heap.get?_push_size _ rfl⟩
theorem Inv.fresh (I : Inv X pins σ H s) : H s.heap.objs.size = none := I.hok.fresh (Nat.le_refl _)
theorem Inv.lstM (I : Inv X pins σ H s) (hH : H l = some (.lst xs)) : xs.length ≤ sizeLine ∧ ∃ (its : List Value) (n : Nat), Vals xs its ∧ xs.length = its.length ∧ s.heap.get? l = some { cls := .type "list", data := .seq its.toArray n } := by
  obtain ⟨z, its, n, r, e⟩ := I.hok l _ hH
  exact ⟨z, its, n, r, r.length, e⟩

theorem notLongL {n : Nat} (h : n ≤ sizeLine) : Builtin.List.listTooLong n = false := by
  unfold Builtin.List.listTooLong
  exact decide_eq_false (by omega)
end

section
variable {X : Cx}

/-! ### methods -/
def rAppend : V → List V → Hp → VK → Prop := fun x vs H Q => ∃ l xs y, x = .ref l ∧ vs = [y] ∧ H l = some (.lst xs) ∧ xs.length < sizeLine ∧ Q .non (upd H l (.lst (xs ++ [y])))
theorem mt_append : MtM X "list.append" rAppend := by
  intro pins s σ H x vs v us Q I rx rv h
  obtain ⟨l, xs, y, rfl, rfl, hH, hz, q⟩ := h
  cases rx
  obtain ⟨u, rfl, ru⟩ := rv.one
  obtain ⟨z, its, n, r, hl, e⟩ := I.lstM hH
  refine call_meets F.slot_list_append ⟨_, e, rfl⟩ F.entry_list_append (F.args_list_append_2 _ _) (PySem.list_append l its.toArray n u (by rw [List.size_toArray]; omega)) ⟨e, ?_⟩
  refine ⟨.non, _, I.lset (its' := its ++ [u]) hH e (by simp) (r.append (.cons ru .nil)) ?_, rfl, q⟩
  rw [List.length_append, List.length_singleton]
  omega

def rExtend : V → List V → Hp → VK → Prop := fun x vs H Q => ∃ l b xs zs, x = .ref l ∧ vs = [.ref b] ∧ H l = some (.lst xs) ∧ H b = some (.lst zs) ∧ xs.length + zs.length ≤ sizeLine ∧ Q .non (upd H l (.lst (xs ++ zs)))
theorem mt_extend : MtM X "list.extend" rExtend := by
  intro pins s σ H x vs v us Q I rx rv h
  obtain ⟨l, b, xs, zs, rfl, rfl, hH, hB, hz, q⟩ := h
  cases rx
  obtain ⟨u, rfl, ru⟩ := rv.one
  cases ru
  obtain ⟨z, its, n, r, hl, e⟩ := I.lstM hH
  obtain ⟨z2, its2, n2, r2, hl2, e2⟩ := I.lstM hB
  have hsz : its.toArray.size + its2.toArray.size ≤ sizeLine := by rw [List.size_toArray, List.size_toArray]; omega
  have hlong : ¬ (!its.toArray.isEmpty && Builtin.List.listTooLong (its.toArray.size + its2.toArray.size)) = true := by
    rw [notLongL hsz, Bool.and_false]
    exact Bool.false_ne_true
  refine call_meets F.slot_list_extend ⟨_, e, rfl⟩ F.entry_list_extend (F.args_list_extend_2 _ _)
    (AutoSeq1.list_extend_list_list_0 l its.toArray n b its2.toArray n2 hlong (by rw [List.size_toArray]; omega) (by omega)) ⟨e, e2, ?_⟩
  refine ⟨.non, _, I.lset (its' := its ++ its2) hH e (by simp) (r.append r2) ?_, rfl, q⟩
  rw [List.length_append]
  omega

def rPop : V → List V → Hp → VK → Prop := fun x vs H Q => ∃ l xs y, x = .ref l ∧ vs = [] ∧ H l = some (.lst xs) ∧ xs[xs.length - 1]? = some y ∧ Q y (upd H l (.lst xs.dropLast))
theorem mt_pop : MtM X "list.pop" rPop := by
  intro pins s σ H x vs v us Q I rx rv h
  obtain ⟨l, xs, y, rfl, rfl, hH, hy, q⟩ := h
  cases rx
  have hus := rv.zero
  subst hus
  obtain ⟨z, its, n, r, hl, e⟩ := I.lstM hH
  obtain ⟨u, hu, ru⟩ := r.get hy
  have hy' : its.toArray[its.toArray.size - 1]? = some u := by
    show its.toArray[its.length - 1]? = some u
    rw [← Array.getElem?_toList, ← hl]
    exact hu
  refine call_meets F.slot_list_pop ⟨_, e, rfl⟩ F.entry_list_pop (F.args_list_pop_1 _) (MeetsSeq.list_pop_last l its.toArray n u hy' (by rw [List.size_toArray]; omega)) ⟨e, ?_⟩
  refine ⟨y, _, I.lset (its' := its.dropLast) hH e ?_ r.dropLast ?_, ru, q⟩
  · show its.toArray.eraseIdxIfInBounds (its.toArray.size - 1) = its.dropLast.toArray
    rw [List.size_toArray, List.eraseIdxIfInBounds_toArray, erase_last]
  · rw [List.length_dropLast]
    omega

def rPopAt : V → List V → Hp → VK → Prop := fun x vs H Q => ∃ l xs i k y, x = .ref l ∧ vs = [.int i] ∧ H l = some (.lst xs) ∧ -(2 ^ 63) ≤ i ∧ i < 2 ^ 63 ∧ seqIndex? i xs.length = some k ∧ xs[k]? = some y ∧ Q y (upd H l (.lst (xs.eraseIdx k)))
theorem mt_popAt : MtM X "list.pop" rPopAt := by
  intro pins s σ H x vs v us Q I rx rv h
  obtain ⟨l, xs, i, k, y, rfl, rfl, hH, h1, h2, hk, hy, q⟩ := h
  cases rx
  obtain ⟨u, rfl, ru⟩ := rv.one
  obtain ⟨t, rfl⟩ := ru
  obtain ⟨z, its, n, r, hl, e⟩ := I.lstM hH
  obtain ⟨w, hw, rw'⟩ := r.get hy
  refine call_meets F.slot_list_pop ⟨_, e, rfl⟩ F.entry_list_pop (F.args_list_pop_2 _ _)
    (MeetsSeq.list_pop_at l its.toArray n i t k w (fitsIndex_both h1 h2) (by rw [List.size_toArray, ← hl]; exact hk) (by rw [← Array.getElem?_toList]; exact hw) (by rw [List.size_toArray]; omega)) ⟨e, ?_⟩
  refine ⟨y, _, I.lset (its' := its.eraseIdx k) hH e ?_ (r.eraseIdx k) ?_, rw', q⟩
  · show its.toArray.eraseIdxIfInBounds k = (its.eraseIdx k).toArray
    rw [List.eraseIdxIfInBounds_toArray]
  · have := len_erase xs k
    omega

def rReverse : V → List V → Hp → VK → Prop := fun x vs H Q => ∃ l xs, x = .ref l ∧ vs = [] ∧ H l = some (.lst xs) ∧ Q .non (upd H l (.lst xs.reverse))
theorem mt_reverse : MtM X "list.reverse" rReverse := by
  intro pins s σ H x vs v us Q I rx rv h
  obtain ⟨l, xs, rfl, rfl, hH, q⟩ := h
  cases rx
  have hus := rv.zero
  subst hus
  obtain ⟨z, its, n, r, hl, e⟩ := I.lstM hH
  refine call_meets F.slot_list_reverse ⟨_, e, rfl⟩ F.entry_list_reverse (F.args_list_reverse_1 _) (AutoSeq1.list_reverse_list_0 l its.toArray n (by rw [List.size_toArray]; omega)) ⟨e, ?_⟩
  refine ⟨.non, _, I.lset (its' := its.reverse) hH e (by simp) r.reverse ?_, rfl, q⟩
  rw [List.length_reverse]
  omega

def rClear : V → List V → Hp → VK → Prop := fun x vs H Q => ∃ l xs, x = .ref l ∧ vs = [] ∧ H l = some (.lst xs) ∧ Q .non (upd H l (.lst []))
theorem mt_clear : MtM X "list.clear" rClear := by
  intro pins s σ H x vs v us Q I rx rv h
  obtain ⟨l, xs, rfl, rfl, hH, q⟩ := h
  cases rx
  have hus := rv.zero
  subst hus
  obtain ⟨z, its, n, r, hl, e⟩ := I.lstM hH
  refine call_meets F.slot_list_clear ⟨_, e, rfl⟩ F.entry_list_clear (F.args_list_clear_1 _) (AutoSeq1.list_clear_list_0 l its.toArray n (by rw [List.size_toArray]; omega)) ⟨e, ?_⟩
  exact ⟨.non, _, I.lset (its' := []) (ys := []) hH e rfl .nil (Nat.zero_le _), rfl, q⟩

/-! ### list + list, list += list, list * int -/
def rCat : R2 := fun x y H Q => ∃ l b xs zs, x = .ref l ∧ y = .ref b ∧ H l = some (.lst xs) ∧ H b = some (.lst zs) ∧ xs.length + zs.length ≤ sizeLine ∧ ∀ p, H p = none → Q (.ref p) (upd H p (.lst (xs ++ zs)))
theorem op_cat : OpR X (binaryOp .Add) rCat := by
  intro pins s σ H x y v u Q I rx ry h
  obtain ⟨l, b, xs, zs, rfl, rfl, hH, hB, hz, q⟩ := h
  cases rx
  cases ry
  obtain ⟨z, its, n, r, hl, e⟩ := I.lstM hH
  obtain ⟨z2, its2, n2, r2, hl2, e2⟩ := I.lstM hB
  refine PySem.P.add_list e e2 ?_ (by rw [List.size_toArray, List.size_toArray]; omega)
  have ea : its.toArray ++ its2.toArray = (its ++ its2).toArray := by simp
  rw [ea]
  exact ⟨.ref _, _, I.lnew (t' := s.toks) (r.append r2) (by rw [List.length_append]; omega), rfl, q _ I.fresh⟩
/-- a list times an int (a negative one is nothing) -/
def rRep : R2 := fun x y H Q => ∃ l k xs, x = .ref l ∧ y = .int k ∧ H l = some (.lst xs) ∧ -(2 ^ 63) ≤ k ∧ k < 2 ^ 63 ∧ xs.length * k.toNat ≤ sizeLine ∧
  ∀ p, H p = none → Q (.ref p) (upd H p (.lst (List.replicate k.toNat xs).flatten))
theorem len_rep {α : Type} (xs : List α) (k : Nat) : (List.replicate k xs).flatten.length = k * xs.length := by
  induction k with
  | zero => simp
  | succ k ih => rw [List.replicate_succ, List.flatten_cons, List.length_append, ih, Nat.succ_mul, Nat.add_comm]
theorem op_rep : OpR X (binaryOp .Mult) rRep := by
  intro pins s σ H x y v u Q I rx ry h
  obtain ⟨l, k, xs, rfl, rfl, hH, h1, h2, hz, q⟩ := h
  cases rx
  obtain ⟨t, rfl⟩ := ry
  obtain ⟨z, its, n, r, hl, e⟩ := I.lstM hH
  have hlen : its.toArray.size * k.toNat ≤ sizeLine := by rw [List.size_toArray, ← hl]; exact hz
  have hcap : ¬ its.toArray.size * k.toNat > (2 ^ 63 - 1) / 8 := by
    have : (sizeLine : Nat) ≤ (2 ^ 63 - 1) / 8 := by decide
    omega
  have hfit : ¬ (!Builtin.List.listFitsIndex k) = true := by
    rw [fitsIndex_both h1 h2]
    exact Bool.false_ne_true
  have hlong : ¬ Builtin.List.listTooLong (its.toArray.size * k.toNat) = true := by
    rw [notLongL hlen]
    exact Bool.false_ne_true
  have hnew : List.foldl (fun x1 x2 => x1 ++ x2) #[] (List.replicate (if its.toArray.isEmpty = true then 0 else k.toNat) its.toArray) = (List.replicate k.toNat its).flatten.toArray := by
    have f0 : ∀ m : Nat, List.foldl (fun x1 x2 => x1 ++ x2) #[] (List.replicate m its.toArray) = (List.replicate m its).flatten.toArray := fun m => by
      have := foldl_rep its m []
      rw [List.nil_append] at this
      exact this
    rw [f0]
    cases its with
    | nil => simp
    | cons a r' => rw [if_neg (by simp)]
  refine wpAny_binaryOp_repeat_ref (T := "list") (U := "int") (by decide) ⟨_, e, rfl⟩ (fun s' => typeIs_int s' k t) noFill_list_mul F.fills_int_mul F.slot_int_rmul repeat_list F.slot_int_index.lookup
    (call_meets F.slot_int_rmul (typeIs_int s k t) F.entry_int_rmul (F.args_int_rmul_2 _ _) (int___rmul___int_list k t l its.toArray n)
      ⟨e, rfl, ⟨_, e, rfl⟩, call_meets F.slot_list_mul ⟨_, e, rfl⟩ F.entry_list_mul (F.args_list_mul_2 _ _) (AutoListH.list___mul___list_int_3 l its.toArray n k t hfit hcap hlong) ⟨e, ?_⟩⟩)
  rw [hnew]
  exact ⟨.ref _, _, I.lnew (t' := s.toks) (r.rep k.toNat) (by rw [len_rep, Nat.mul_comm]; exact hz), rfl, q _ I.fresh⟩

/-! ### del xs[i] -/
theorem del_list {pins : List (Addr × Obj)} {s : Shared} {σ : St} {H : Hp} {l : Addr} {xs : List V} {i : Int} {t : Tok} {k : Nat} {Q : Unit → Shared → Prop} (I : Inv X pins σ H s) (hH : H l = some (.lst xs))
    (h1 : -(2 ^ 63) ≤ i) (h2 : i < 2 ^ 63) (hk : seqIndex? i xs.length = some k) (h : ∀ s', Inv X pins σ (upd H l (.lst (xs.eraseIdx k))) s' → Q () s') :
    wpAny (model X.prog X.w) X.A (delItem (.ref l) (.int i t)) Q X.xe s := by
  obtain ⟨z, its, n, r, hl, e⟩ := I.lstM hH
  refine PySem.P.delItem_list (k := k) e (fitsIndex_both h1 h2) (by rw [List.size_toArray, ← hl]; exact hk) (h _ ?_) (by rw [List.size_toArray]; omega)
  refine I.lset (its' := its.eraseIdx k) (t' := s.toks) hH e ?_ (r.eraseIdx k) ?_
  · show its.toArray.eraseIdxIfInBounds k = (its.eraseIdx k).toArray
    rw [List.eraseIdxIfInBounds_toArray]
  · have := len_erase xs k
    omega
end

/-! ### xs[a:b] = ys -/
section
variable {prog : Program} {w : World} {A : Around} {E : Value → Shared → Prop} {s : Shared}
theorem splice_eq (its its2 : List Value) (a c : Nat) : its.toArray.extract 0 a ++ its2.toArray ++ its.toArray.extract c its.toArray.size = (its.take a ++ its2 ++ its.drop c).toArray := by
  apply Array.toList_inj.mp
  first
    | (simp
       exact List.take_of_length_le (by simp))
    | simp [List.take_of_length_le]
    | simp
theorem bounds_run {a c n : Nat} (hac : a ≤ c) (hc : c ≤ n) : sliceBounds (some (a : Int)) (some (c : Int)) none n = ((a : Int), (c : Int), 1) := by
  simp only [sliceBounds, Option.getD_none]
  have h1 : ¬ ((a : Int) < 0) := by omega
  have h2 : ¬ ((c : Int) < 0) := by omega
  simp only [h1, h2, if_false, show (1 : Int) > 0 by decide, if_true]
  congr 1
  · omega
  · congr 1; omega
set_option maxRecDepth 100000 in
/-- list.__setitem__ with a slice of step one and another list -/
theorem setItem_slice {l b sl : Addr} {items new : Array Value} {n n2 : Nat} {vl vu : Value} {a c : Nat} {Q : Unit → Shared → Prop}
    (e : s.heap.get? l = some { cls := .type "list", data := .seq items n }) (e2 : s.heap.get? b = some { cls := .type "list", data := .seq new n2 }) (hne : l ≠ b)
    (hs : s.heap.IsSliceOf sl vl vu .none) (pl : IsPart vl (some (a : Int))) (pu : IsPart vu (some (c : Int))) (hac : a ≤ c) (hc : c ≤ items.size)
    (hsz : items.size + new.size ≤ sizeLine) (h : Q () { s with heap := s.heap.update l (Obj.mapSeq fun xs => xs.extract 0 a ++ new ++ xs.extract c xs.size) }) :
    wpAny (model prog w) A (setItem (.ref l) (.ref sl) (.ref b)) Q E s := by
  have hl : s.heap.IsList l items := PySem.IsL.isList e
  have hb : s.heap.IsList b new := PySem.IsL.isList e2
  obtain ⟨os, hos, hcs, hds⟩ := id hs
  have hTs : s.TypeIs (.ref sl) "slice" := ⟨os, hos, hcs⟩
  have hstep : ¬ ((rawPart none == rawInt 0) = true) := Bool.false_ne_true
  have hsame : Builtin.List.listSameRef (.ref l) (.ref b) = false := by
    unfold Builtin.List.listSameRef
    exact beq_eq_false_iff_ne.mpr hne
  have hmax : (max (a : Int) (c : Int)).toNat = c := by omega
  have hz' : ((fun xs : Array Value => xs.extract 0 a ++ new ++ xs.extract c xs.size) items).size ≤ sizeLine + 1 := by
    simp only [Array.size_append, Array.size_extract]
    omega
  unfold setItem
  try with_reducible refine wpAny_holding ?_
  first | refine wpAny_bind (wpAny_pure ?_) | skip
  refine wpAny_bind (wpAny_sequenceKey hl.typeIs (by decide) ?_)
  refine wpAny_bind (wpAny_callSpecial?_slot (name := Str.ofString "__setitem__") hl.typeIs slot_list_setitem
    (wpAny_call_entry slot_list_setitem hl.typeIs entry_list_setitem ?_ (args_list_setitem _ _ _)))
  show wpAny _ _ (Builtin.List.listSubscript? (.ref sl) >>= _) _ _ s
  refine wpAny_bind ?_
  unfold Builtin.List.listSubscript?
  refine wpAny_bind (wpAny_specialOf hTs slice_no_index ?_)
  simp only [Option.isNone_none, if_true]
  refine wpAny_pure ?_
  show wpAny _ _ (typeOf (.ref sl) >>= _) _ _ s
  refine wpAny_bind (wpAny_typeOf hTs ?_)
  first
    | rw [if_neg (by decide)]
    | refine PySem.W.KFB.if_not (by decide) ?_
  rw [listSliceParts_eq]
  refine wpAny_bind (wpAny_bind (wpAny_field hos hds (x := .none) rfl (wpAny_bind (wpAny_listPart .none ?_))))
  rw [if_neg hstep]
  refine wpAny_bind (wpAny_field hos hds (x := vl) rfl (wpAny_bind (wpAny_listPart pl ?_)))
  refine wpAny_bind (wpAny_field hos hds (x := vu) rfl (wpAny_bind (wpAny_listPart pu (wpAny_pure ?_))))
  first
    | simp only [hsame, Bool.false_eq_true, if_false]
    | refine PySem.W.KFB.if_not hsame ?_
    | (dsimp only
       rw [if_neg (by rw [hsame]; exact Bool.false_ne_true)])
  refine wpAny_bind (m := Builtin.List.listAllItems (.ref b) "must assign iterable to extended slice") ?_
  unfold Builtin.List.listAllItems
  refine wpAny_bind (wpAny_typeOf hb.typeIs ?_)
  first
    | refine PySem.W.KFB.if_so (by decide) ?_
    | rw [if_pos (by decide)]
    | simp only [beq_self_eq_true, Bool.true_or, if_true]
  unfold Builtin.List.listItems
  refine wpAny_bind (wpAny_seqItems e2 rfl (wpAny_pure ?_))
  refine wpAny_bind (wpAny_bind (wpAny_seqItems e rfl (wpAny_pure ?_)))
  refine wpAny_bind (wpAny_of_eq ((sliceIndices_raw (some (a : Int)) (some (c : Int)) none items.size (by simp)).trans (congrArg (pure : Int × Int × Int → Sem (Int × Int × Int)) (bounds_run hac hc))) ?_)
  show wpAny _ _ (if ((1 : Int) == 1) = true then _ else _) _ _ s
  rw [if_pos (by decide)]
  refine wpAny_bind (wpAny_rule ?_)
  first
    | simp only [notLongL hsz, Bool.false_eq_true, if_false]
    | refine PySem.W.KFB.if_not (notLongL hsz) ?_
  first | refine wpAny_bind (wpAny_pure ?_) | skip
  show wpAny _ _ (updateSeq l (fun xs => xs.extract 0 ((a : Int)).toNat ++ new ++ xs.extract (max (a : Int) (c : Int)).toNat xs.size) >>= _) _ _ s
  rw [hmax, Int.toNat_natCast]
  refine wpAny_bind (wpAny_updateSeq (hz := Nat.le_trans (Nat.le_add_right _ _) hsz) (_hz' := hz') e rfl ?_)
  refine wpAny_bind (wpAny_letGo ?_)
  first
    | exact wpAny_bind (wpAny_pure (wpAny_pure ⟨.none, rfl, wpAny_pure h⟩))
    | exact wpAny_pure ⟨.none, rfl, wpAny_pure h⟩
end

section
variable {X : Cx}
/-- xs[a:c] = ys of another list, at the value level: sl is the slice object that was just made -/
theorem set_slice {pins : List (Addr × Obj)} {s : Shared} {σ : St} {H : Hp} {l b sl : Addr} {xs ys : List V} {a c : Int} {vl vu : Value} {Q : Unit → Shared → Prop} (I : Inv X pins σ H s)
    (hH : H l = some (.lst xs)) (hB : H b = some (.lst ys)) (hne : l ≠ b) (hs : s.heap.IsSliceOf sl vl vu .none) (ra : RelV (.int a) vl) (rc : RelV (.int c) vu) (h0 : 0 ≤ a) (hac : a ≤ c) (hc : c ≤ xs.length)
    (hz : xs.length + ys.length ≤ sizeLine) (h : ∀ s', Inv X pins σ (upd H l (.lst (xs.take a.toNat ++ ys ++ xs.drop c.toNat))) s' → Q () s') :
    wpAny (model X.prog X.w) X.A (setItem (.ref l) (.ref sl) (.ref b)) Q X.xe s := by
  obtain ⟨ta, rfl⟩ := ra
  obtain ⟨tc, rfl⟩ := rc
  obtain ⟨z, its, n, r, hl, e⟩ := I.lstM hH
  obtain ⟨z2, its2, n2, r2, hl2, e2⟩ := I.lstM hB
  obtain ⟨a', rfl⟩ := Int.eq_ofNat_of_zero_le h0
  obtain ⟨c', rfl⟩ := Int.eq_ofNat_of_zero_le (Int.le_trans h0 hac)
  simp only [Int.toNat_natCast] at h
  refine setItem_slice (a := a') (c := c') e e2 hne hs (.int _ _) (.int _ _) (by omega) (by rw [List.size_toArray]; omega) (by rw [List.size_toArray, List.size_toArray]; omega) (h _ ?_)
  refine I.lset (its' := its.take a' ++ its2 ++ its.drop c') (t' := s.toks) hH e ?_ (Vals.append (Vals.append (r.take _) r2) (r.drop _)) ?_
  · exact splice_eq its its2 a' c'
  · rw [List.length_append, List.length_append, List.length_take, List.length_drop]
    omega
end
end L2

namespace Att
open PySem PySem.W PySem.Calls PyProof.Rows

/-! ### the script -/
theorem ints_of_wellAll {P : Params} {h : Heap} : ∀ (ns : List Int) (vs : List Value), WellAll P h vs (ns.map WData.int) → IntsAre vs ns := by
  intro ns
  induction ns with
  | nil =>
    intro vs w
    rw [List.map_nil] at w
    cases w
    exact .nil
  | cons n ns ih =>
    intro vs w
    rw [List.map_cons] at w
    cases w with
    | cons a b =>
      cases a
      exact .cons _ _ (ih _ b)

theorem script_of {l : OpenLaw} {n : Nat} (hn : l.most = some n) {P : Params} {h : Heap} {args : List WData} {vals : List Value}
    (hpre : l.row.toRowW.claim.pre args = true) (hwl : WellAll P h vals args) :
    ∃ a vs ns, vals = [Value.ref a] ∧ args = [WData.list (ns.map WData.int)] ∧ h.get? a = some { cls := .type "list", data := .seq vs.toArray } ∧ IntsAre vs ns ∧ ns.length ≤ n := by
  have hsh : WShape.hasAll [] args [.list .int] = true := (pre_splitW hpre).1
  have hc : l.pre.holds [] { args := args } = true := (pre_splitW hpre).2
  obtain ⟨d, r, rfl, h1, h2⟩ := hasAllW_cons hsh
  obtain rfl := hasAllW_nil h2
  obtain ⟨xs, rfl, h3⟩ := hasW_list h1
  obtain ⟨ns, rfl⟩ := items_int h3
  have hlen : ns.length ≤ n := by
    unfold OpenLaw.pre at hc
    have h4 : (WTm.not (.lt (.lit (.int (n : Int))) (.len (.arg 0)))).holds [] { args := [.list (ns.map .int)] } = true := by
      have h4 := (holds_andW hc).1
      rw [hn] at h4
      exact h4
    have h5 := condW_of h4 (w_not (w_lt w_lit (w_len_list (w_arg rfl))))
    rw [List.length_map] at h5
    refine Nat.le_of_not_lt fun q => ?_
    have q' : (n : Int) < ((ns.length : Nat) : Int) := by omega
    first
      | (rw [decide_eq_true q'] at h5; exact absurd h5 (by decide))
      | (simp at h5; omega)
  cases hwl with
  | cons w1 w2 =>
    cases w2
    cases w1 with
    | list ho hall => exact ⟨_, _, ns, rfl, rfl, ho, ints_of_wellAll ns _ hall, hlen⟩

theorem post_true (l : OpenLaw) (args : List WData) : l.row.toRowW.claim.post args (.bool true) args = true :=
  postW_of (r := l.row.toRowW) (X := (true == true))
    (show WShape.has [] (.bool true) .bool = true by first | rfl | decide | simp [WShape.has, WShape.arms, WShape.armsAll])
    (show (WTm.eq .res (.lit (.bool true))).value [] { args := args, res := some (.bool true), after := args } = some (.bool (true == true)) from w_eq_bool (w_res rfl) w_lit) rfl

/-! ### the attachment: holds_open's last premise (the goal 'hc' behind k_head) from a wpAny of the law's body -/
theorem attach {l : OpenLaw} {n : Nat} {q : Program} {loose : List Str} {XP : (Str → Option Value) → Heap → Prop} {YP : World → Heap → Prop} {d : DefRec} {x : Str}
    (hn : l.most = some n) (hdf : d.params.defaults = [])
    (hbind : ∀ pm cd doc v : Value, bindArgs (docDef d.name d.params d.body d.scope pm cd doc) ⟨[v], []⟩ = pure [(x, v)])
    (hx : d.scope.names.lookup x = some .local ∨ d.scope.names.lookup x = some .cell)
    (hk : d.scope.kind = .function) (hco : d.scope.isCoroutine = false) (hgen : d.scope.isGenerator = false)
    (body : ∀ (w : World) (s₀ s₁ s : Shared) (mg mb : Str → Option Value) (fa : Addr) (o : Obj) (pm cd doc : Value) (a : Addr) (vs : List Value) (ns : List Int),
      Ground q loose [] XP w s₀ mg mb s₁.heap → YP w s₁.heap →
      s₁.heap.get? fa = some o → o.data = .func (docDef d.name d.params d.body d.scope pm cd doc) → s₁.heap.CodeRec cd d.name → mg d.name = some (.ref fa) →
      s₁.heap.get? a = some { cls := .type "list", data := .seq vs.toArray } → IntsAre vs ns → ns.length ≤ n →
      s.gens = #[] → s.os = s₁.os →
      Fr s₁.heap s₁.heap.objs.size s.heap (bindL (envOfC d.name d.scope s₁.heap.objs.size fa cd).kindOf [(x, .ref a)] fun _ => none) →
      Cl s₁.heap.objs.size (cellsFrom (s₁.heap.objs.size + 1) d.scope.names []) s.heap (bindC (envOfC d.name d.scope s₁.heap.objs.size fa cd).kindOf [(x, .ref a)] fun _ => none) →
      wpAny (model l.prog w) (callerA.deeper (envOfC d.name d.scope s₁.heap.objs.size fa cd)) (execs d.body (envOfC d.name d.scope s₁.heap.objs.size fa cd))
        (fun f s' => f = .ret (.bool true) ∧ OldK s₁.heap s'.heap ∧ s'.os = s₁.os ∧ AllBare s'.gens) (fun _ _ => False) s) :
    WalkO q loose XP YP l.row.toRowW d [] (fun f vs => PySem.call f vs) := by
  intro w s₀ s₁ mg mb G Y fa o pm cd doc dV kV ho hd hcd hD hmg hg args vals as hpre hlay hrd hwl hlo
  obtain rfl : dV = .none := Dflts.none hD hdf
  obtain rfl : kV = .none := Dflts.noKw hD
  obtain ⟨a, vs, ns, rfl, rfl, hobj, hints, hlen⟩ := script_of hn hpre hwl
  refine enter_call ?_
  refine call_cells_ret (o := o) (by rw [depth_caller]; decide) ho (fd_plain hd) G.T.nolimit hcd (hbind pm cd doc (.ref a)) (fun y hy => ?_) (fun h₁ tk F X => ?_) hco hgen hk
  · obtain rfl : y = (x, Value.ref a) := List.mem_singleton.mp hy
    rcases hx with e | e
    · exact .inl e
    · exact .inr ⟨e, cellsFrom_some _ _ _ (.inl e)⟩
  · refine wpAny_mono (body w s₀ s₁ { s₁ with heap := h₁, toks := tk } mg mb fa o pm cd doc a vs ns G Y ho (fd_plain hd) hcd hmg hobj hints hlen hg rfl F X) (fun f s' hq => ?_) (fun _ _ hq => hq)
    obtain ⟨rfl, h2, h3, h4⟩ := hq
    exact ⟨.inl ⟨.bool true, .bool true, [], rfl, fun _ => rfl, .bool true, post_true l _, fun _ => ⟨List.Pairwise.nil, fun _ hm => (nomatch hm)⟩⟩, h2, h3, h4⟩

/-- the same from a codeAny of the CALL (for a layer whose function contracts speak of calls) -/
theorem attach_call {l : OpenLaw} {n : Nat} {q : Program} {loose : List Str} {XP : (Str → Option Value) → Heap → Prop} {YP : World → Heap → Prop} {d : DefRec}
    (hn : l.most = some n) (hdf : d.params.defaults = [])
    (call : ∀ (w : World) (s₀ s₁ : Shared) (mg mb : Str → Option Value) (fa : Addr) (o : Obj) (pm cd doc : Value) (a : Addr) (vs : List Value) (ns : List Int),
      Ground q loose [] XP w s₀ mg mb s₁.heap → YP w s₁.heap →
      s₁.heap.get? fa = some o → o.data = .func (docDef d.name d.params d.body d.scope pm cd doc) → s₁.heap.CodeRec cd d.name → mg d.name = some (.ref fa) →
      s₁.heap.get? a = some { cls := .type "list", data := .seq vs.toArray } → IntsAre vs ns → ns.length ≤ n → s₁.gens = #[] →
      codeAny (model l.prog w) callerA (.call (.ref fa) ⟨[.ref a], []⟩) (fun r s' => r = .ok (.ret (.bool true)) ∧ OldK s₁.heap s'.heap ∧ s'.os = s₁.os ∧ AllBare s'.gens) s₁) :
    WalkO q loose XP YP l.row.toRowW d [] (fun f vs => PySem.call f vs) := by
  intro w s₀ s₁ mg mb G Y fa o pm cd doc dV kV ho hd hcd hD hmg hg args vals as hpre hlay hrd hwl hlo
  obtain rfl : dV = .none := Dflts.none hD hdf
  obtain rfl : kV = .none := Dflts.noKw hD
  obtain ⟨a, vs, ns, rfl, rfl, hobj, hints, hlen⟩ := script_of hn hpre hwl
  refine enter_call (codeAny_mono (call w s₀ s₁ mg mb fa o pm cd doc a vs ns G Y ho (fd_plain hd) hcd hmg hobj hints hlen hg) fun r s' hq => ?_)
  obtain ⟨rfl, h2, h3, h4⟩ := hq
  exact ⟨.inl ⟨.bool true, .bool true, [], rfl, fun _ => rfl, .bool true, post_true l _, fun _ => ⟨List.Pairwise.nil, fun _ hm => (nomatch hm)⟩⟩, h2, h3, h4⟩

/-- the same where the top left finished generators (o_head chose holds_openN): nothing may have changed at all and no generator may be left -/
theorem attachN {l : OpenLaw} {n : Nat} {q : Program} {loose : List Str} {XP : (Str → Option Value) → Heap → Prop} {YP : World → Heap → Prop} {d : DefRec} {x : Str}
    (hn : l.most = some n) (hdf : d.params.defaults = [])
    (hbind : ∀ pm cd doc v : Value, bindArgs (docDef d.name d.params d.body d.scope pm cd doc) ⟨[v], []⟩ = pure [(x, v)])
    (hx : d.scope.names.lookup x = some .local ∨ d.scope.names.lookup x = some .cell)
    (hk : d.scope.kind = .function) (hco : d.scope.isCoroutine = false) (hgen : d.scope.isGenerator = false)
    (body : ∀ (w : World) (s₀ s₁ s : Shared) (mg mb : Str → Option Value) (fa : Addr) (o : Obj) (pm cd doc : Value) (a : Addr) (vs : List Value) (ns : List Int),
      Ground q loose [] XP w s₀ mg mb s₁.heap → YP w s₁.heap →
      s₁.heap.get? fa = some o → o.data = .func (docDef d.name d.params d.body d.scope pm cd doc) → s₁.heap.CodeRec cd d.name → mg d.name = some (.ref fa) →
      s₁.heap.get? a = some { cls := .type "list", data := .seq vs.toArray } → IntsAre vs ns → ns.length ≤ n →
      s.gens = #[] → s.os = s₁.os →
      Fr s₁.heap s₁.heap.objs.size s.heap (bindL (envOfC d.name d.scope s₁.heap.objs.size fa cd).kindOf [(x, .ref a)] fun _ => none) →
      Cl s₁.heap.objs.size (cellsFrom (s₁.heap.objs.size + 1) d.scope.names []) s.heap (bindC (envOfC d.name d.scope s₁.heap.objs.size fa cd).kindOf [(x, .ref a)] fun _ => none) →
      wpAny (model l.prog w) (callerA.deeper (envOfC d.name d.scope s₁.heap.objs.size fa cd)) (execs d.body (envOfC d.name d.scope s₁.heap.objs.size fa cd))
        (fun f s' => f = .ret (.bool true) ∧ (∀ b o, s₁.heap.get? b = some o → s'.heap.get? b = some o) ∧ s'.os = s₁.os ∧ s'.gens = #[]) (fun _ _ => False) s) :
    WalkN q loose XP YP l.row.toRowW d [] (fun f vs => PySem.call f vs) := by
  intro w s₀ s₁ mg mb G Y fa o pm cd doc dV kV ho hd hcd hD hmg hg args vals as hpre hlay hrd hwl hlo
  obtain rfl : dV = .none := Dflts.none hD hdf
  obtain rfl : kV = .none := Dflts.noKw hD
  obtain ⟨a, vs, ns, rfl, rfl, hobj, hints, hlen⟩ := script_of hn hpre hwl
  refine enter_callW ?_
  refine call_cells_ret (o := o) (by rw [depth_caller]; decide) ho (fd_plain hd) G.T.nolimit hcd (hbind pm cd doc (.ref a)) (fun y hy => ?_) (fun h₁ tk F X => ?_) hco hgen hk
  · obtain rfl : y = (x, Value.ref a) := List.mem_singleton.mp hy
    rcases hx with e | e
    · exact .inl e
    · exact .inr ⟨e, cellsFrom_some _ _ _ (.inl e)⟩
  · refine wpAny_mono (body w s₀ s₁ { s₁ with heap := h₁, toks := tk } mg mb fa o pm cd doc a vs ns G Y ho (fd_plain hd) hcd hmg hobj hints hlen hg rfl F X) (fun f s' hq => ?_) (fun _ _ hq => hq)
    obtain ⟨rfl, h2, h3, h4⟩ := hq
    exact ⟨.inl ⟨.bool true, .bool true, [], rfl, fun _ => rfl, .bool true, post_true l _, fun _ => ⟨List.Pairwise.nil, fun _ hm => (nomatch hm)⟩⟩, h2, h3, h4⟩

/-! ### rules over ANY heap (no ledger) from facts about the written part K: the library's own take a ledger (News) for what they write -/
section
variable {prog : Program} {w : World} {A : Around} {E : Value → Shared → Prop} {s : Shared} {K : Frag}

/-- a def of the module, or a method (qual 'C.m'), entered: the frame is the next address; cells behind it -/
theorem call_fn {R : Result → Shared → Prop} {name qual : Str} {params : Arguments} {body : List Stmt} {scope : Scope} {dV kV doc pm cdv ct oc : Value} {an od : Option Addr} {osl : Array (Option Value)} {f : Addr} {args : Args} {binds : List (Str × Value)}
    (X : K.In s.heap) (hlim : s.heap.NoLimit) (ho : K.lookup f = some ⟨oc, od, .func (fnOf name qual params body scope dV kV doc pm an cdv ct), osl⟩) (hcd : codeIn K cdv qual = true) (hroom : A.depth < recursionLimit)
    (hbind : BindsTo s (fnOf name qual params body scope dV kV doc pm an cdv ct) args binds)
    (hkind : (binds.all fun y => scope.names.lookup y.1 == some .local || scope.names.lookup y.1 == some .cell) = true)
    (h : ∀ s₁, InCallC s s.heap.objs.size (bindL (envOfC qual scope s.heap.objs.size f cdv).kindOf binds fun _ => none) (cellsFrom (s.heap.objs.size + 1) scope.names [])
        (bindC (envOfC qual scope s.heap.objs.size f cdv).kindOf binds fun _ => none) s₁ →
      wpAny (model prog w) (A.deeper (envOfC qual scope s.heap.objs.size f cdv)) (execs body (envOfC qual scope s.heap.objs.size f cdv))
        (fun fl s' => R (.ok (.ret (match fl with | .ret v => v | _ => .none))) s')
        (fun e s' => wpAny (model prog w) (A.deeper (envOfC qual scope s.heap.objs.size f cdv)) (leaving (envOfC qual scope s.heap.objs.size f cdv) e) (fun _ s'' => R (.error e) s'') (fun e' s'' => R (.error e') s'') s') s₁)
    (hco : scope.isCoroutine = false) (hgen : scope.isGenerator = false) (hk : scope.kind = .function) : codeAny (model prog w) A (.call (.ref f) args) R s := by
  refine codeAny_call_function hroom (X _ _ ho) rfl hco hgen rfl (codeRec_of X hcd) (hbind _ _ _ _ ?_)
  refine wpAny_newFunctionEnv_cells hk (kindsX hkind _) fun env he s₁ x => ?_
  subst he
  exact ⟨hlim.keeps x.toInCall.keep, codeAny_func (h s₁ x)⟩

/-- C(..): dict at size, instance at size + 1, then __init__ -/
theorem make_obj {R : Result → Shared → Prop} {C fI : Addr} {rest : List Value} {kw : List (Str × Value)}
    (X : K.In s.heap) (hm : makesIn K C = true) (hi : findIn K (.ref C) "__init__" = some (some (.ref fI))) (hf : isFn K (.ref fI) = true)
    (h : codeAny (model prog w) (A.under (.builtin "type.__call__" ⟨.ref C :: rest, kw⟩)) (.call (.ref fI) ⟨.ref (s.heap.objs.size + 1) :: rest, kw⟩) (InitBack (s.heap.objs.size + 1) R)
      { s with heap := (s.heap.push emptyDict).push (instObj C s.heap.objs.size) }) : codeAny (model prog w) A (.call (.ref C) ⟨rest, kw⟩) R s := by
  obtain ⟨hh, g, d, t, os⟩ := s
  exact make_core (makes_of X hm) (looks_findIn X hi) (fun self => bind_fn X self (beq_iff_eq.mp hf)) (.inl rfl) h

/-- x.name where the instance's dict holds the name and the class does not -/
theorem get_field {x C : Addr} {ox : Obj} {es : List DictEntry} {n : Nat} {name : Str} {expr : Bool} {v : Value} {Q : Value → Shared → Prop}
    (X : K.In s.heap) (I : PySem.W.InstAt s.heap x ox C (some (dictOf es n))) (hg : plainGet K C name = true) (hh : hasDictIn K C = true) (ha : findIn K (.ref C) name = some none)
    (hl : getL name es = some (some v)) (hv : handedIn v = true) (h : Q v { s with toks := s.toks + 1 }) : wpAny (model prog w) A (getAttr (.ref x) name expr) Q E s :=
  get_value X I (plainGet_of hg).1 (findObj_own hh ha rfl hl) hv h

/-- x.m(..): the method found in the class -/
theorem get_method {x C f : Addr} {ox : Obj} {es : List DictEntry} {n : Nat} {name : Str} {pl : Sem Bool} {Q : Value × List Value → Shared → Prop}
    (X : K.In s.heap) (I : PySem.W.InstAt s.heap x ox C (some (dictOf es n))) (hg : plainGet K C name = true) (hf : findIn K (.ref C) name = some (some (.ref f))) (ht : isFn K (.ref f) = true)
    (hl : getL name es = some none) (h : Q (.ref f, [.ref x]) s) : wpAny (model prog w) A (getMethod (.ref x) name pl) Q E s :=
  method_fn X I (plainGet_of hg).1 (plainGet_of hg).2 hf (beq_iff_eq.mp ht) (by show (lookIn name (dictOf es n)).map _ = _; rw [lookIn_dict, hl]; rfl) h

/-! the whole heap as the ledger: makes every rule that writes through a ledger a rule over any heap -/
def noObjs (h : Heap) : Heap := { h with objs := #[] }
theorem noObjs_get (h : Heap) (b : Addr) : (noObjs h).get? b = none := by
  cases e : (noObjs h).get? b with
  | none => rfl
  | some o => exact absurd (Heap.lt_size e) (Nat.not_lt_zero _)
def ledger (h : Heap) (L d : Addr) : List (Addr × Obj) := (List.range h.objs.size).filterMap fun a => if a = L ∨ a = d then none else (h.get? a).map fun o => (a, o)
theorem mem_ledger {h : Heap} {L d a : Addr} {o : Obj} : (a, o) ∈ ledger h L d ↔ a ≠ L ∧ a ≠ d ∧ h.get? a = some o := by
  unfold ledger
  rw [List.mem_filterMap]
  constructor
  · rintro ⟨b, _, e⟩
    split at e
    · cases e
    · rename_i hb
      obtain ⟨o', ho, e'⟩ := Option.map_eq_some_iff.mp e
      cases e'
      exact ⟨fun q => hb (.inl q), fun q => hb (.inr q), ho⟩
  · rintro ⟨n1, n2, ho⟩
    refine ⟨a, List.mem_range.mpr (Heap.lt_size ho), ?_⟩
    rw [if_neg (show ¬ (a = L ∨ a = d) from fun q => q.elim n1 n2), ho] <;> rfl
theorem news_ledger {h : Heap} {L d : Addr} {od : Obj} (hne : d ≠ L) (ho : h.get? d = some od) : News (noObjs h) L h ([] ++ (d, od) :: ledger h L d) := by
  rintro ⟨a, o⟩ hp
  rcases List.mem_cons.mp hp with e | hp
  · cases e
    exact ⟨ho, hne, noObjs_get _ _⟩
  · obtain ⟨n1, n2, e⟩ := mem_ledger.mp hp
    exact ⟨e, n1, noObjs_get _ _⟩
theorem fr_all {h : Heap} {L : Addr} {m : Str → Option Value} (n : h.Ns L m) : Fr (noObjs h) L h m :=
  ⟨n, fun b o e => (by rw [noObjs_get] at e; cases e), Nat.zero_le _⟩
/-- Upd of the head entry (for append_K, setItem_K ..) -/
theorem upd_ledger {h : Heap} {L d : Addr} {o o' : Obj} : Upd d o o' ((d, o) :: ledger h L d) ((d, o') :: ledger h L d) :=
  .head fun ⟨_, _⟩ hp => (mem_ledger.mp hp).2.1

/-- x.name = v over any heap: L is any namespace of the heap (the frame's, say): its map stays, its object is not told; all else but the dict stays -/
theorem set_field {x C dx L : Addr} {ox : Obj} {m : Str → Option Value} {es es' : List DictEntry} {n n' : Nat} {name : Str} {v : Value} {Q : Unit → Shared → Prop}
    (X : K.In s.heap) (I : PySem.W.InstAt s.heap x ox C (some (dictOf es n))) (hd : ox.dict = some dx) (hL : s.heap.Ns L m) (hne : dx ≠ L)
    (hs : findIn K (.ref C) "__setattr__" = some (some (.builtin "object.__setattr__"))) (hp : plainOver K C = true) (ht : takerIn K C name = some none) (hh : hasDictIn K C = true) (hl : (getL name es).isSome = true)
    (e : (putL name (PyData.keyHash w.params name) (.str name (s.toks + 1)) v es, putN name es n) = (es', n')) (hz : es'.length ≤ 1000)
    (h : ∀ h' : Heap, h'.Ns L m → h'.get? dx = some (dictOf es' n') → (∀ b o, b ≠ dx → b ≠ L → s.heap.get? b = some o → h'.get? b = some o) → Q () { s with heap := h', toks := s.toks + 2 }) :
    wpAny (model prog w) A (setAttr (.ref x) name v) Q E s := by
  obtain ⟨e1, e2⟩ := Prod.mk.inj e
  have hdx : s.heap.get? dx = some (dictOf es n) := by
    have := I.dict
    rw [hd] at this
    exact this
  refine set_plain X I hs (osa_dict (s := { s with toks := s.toks + 1 }) (h₀ := noObjs s.heap) (L := L) (m := m) (od := dictOf es n) (od' := dictOf es' n') (es := es') (n := n') (pre := []) (post := ledger s.heap L dx)
    (fr_all hL) (news_ledger hne hdx) X I hd hp ht hh hl (fun _ q => nomatch q) (fun ⟨_, _⟩ q => (mem_ledger.mp q).2.1) (by rw [putName_dict, e1, e2]) rfl hz fun h' F' N' => ?_)
  exact h h' F'.ns (N'.get (List.Mem.head _)) fun b o n1 n2 ho => N'.get (List.Mem.tail _ (mem_ledger.mpr ⟨n2, n1, ho⟩))
end
end Att

namespace L2
open PySem PySem.Spec PyProof.Rows

theorem vals_ints : ∀ {vs : List Value} {ns : List Int}, IntsAre vs ns → Vals (ns.map V.int) vs
  | _, _, .nil => .nil
  | _, _, .cons n t h => .cons ⟨t, rfl⟩ (vals_ints h)

/-- nothing is tracked but the script, known to the object (or it is an object of the module) -/
def Only (H : Hp) : Prop := ∀ b, H b = none ∨ ∃ o xs, H b = some (.frz o (.lst xs))

/-- THE HEAD: the law's promise, at the heap behind the top. F, the promise of the law's def, may use that base is part of the heap (so K.In base, base.Ns mainGlobals mg stand in Mod) -/
theorem law_call {P : Program} {w : World} {K : PySem.W.Frag} {mg mb : Str → Option Value} {CX : CXT} {k : Nat} {fa a : Addr} {fd : FuncData} {x : Str} {sp : Sp} {s₁ : Shared} {vs : List Value} {ns : List Int}
    (KX : K.In s₁.heap) (hns : s₁.heap.Ns mainGlobals mg) (hb : s₁.heap.Ns builtinsNs mb) (hbb : ∀ x : Str, x ≠ "__name__" → mb x = bootBuiltins x) (hlim : s₁.heap.NoLimit) (hg : s₁.gens = #[])
    (ha : s₁.heap.get? a = some { cls := .type "list", data := .seq vs.toArray }) (hi : IntsAre vs ns) (hl : ns.length ≤ sizeLine) (hr : Room k callerA)
    (F : ∀ base : Heap, K.In base → base.Ns mainGlobals mg → FnOk P w K mg base CX k fa fd [x] sp) (hbind : ∀ (s : Shared) (u : Value), BindsTo s fd ⟨[u], []⟩ [(x, u)])
    (hsp : ∀ H : Hp, Only H → SqL K H a (ns.map V.int) → sp [.ref a] H (fun v _ => v = .bl true) fun _ _ _ => False)
    (hCX : ∀ H e s', CX [] H s₁ (fun _ _ _ => False) e s' → False) :
    codeAny (model P w) callerA (.call (.ref fa) ⟨[.ref a], []⟩) (fun r s' => r = .ok (.ret (.bool true)) ∧ OldK s₁.heap s'.heap ∧ s'.os = s₁.os ∧ AllBare s'.gens) s₁ := by
  have rv := vals_ints hi
  have lenV := hi.length
  -- from an abstract heap in which nothing but the script may be tracked
  have core : ∀ H : Hp, Only H → SqL K H a (ns.map V.int) → HOk P w H s₁.heap → (∀ b, H b ≠ none → b = a) → (H a ≠ none → K.lookup a = none) →
      codeAny (model P w) callerA (.call (.ref fa) ⟨[.ref a], []⟩) (fun r s' => r = .ok (.ret (.bool true)) ∧ OldK s₁.heap s'.heap ∧ s'.os = s₁.os ∧ AllBare s'.gens) s₁ := by
    intro H hO hS hok hA hK
    have base_of : ∀ {b : Addr} {o : Obj}, s₁.heap.get? b = some o → H b = none → (hidT s₁.heap H).get? b = some o := fun e n => hidT_get e n
    have noA : ∀ {b : Addr} {o : Obj} {es : Array DictEntry} {ep : Nat}, s₁.heap.get? b = some o → o.data = .dict es ep → H b = none := fun {b o es ep} e d => by
      cases q : H b with
      | none => rfl
      | some u =>
        have e' : b = a := hA b (by rw [q]; simp)
        subst e'
        rw [ha] at e; cases e
        have d' : Data.seq vs.toArray _ = Data.dict es ep := d
        cases d'
    have nsK : ∀ {b : Addr} {m : Str → Option Value}, s₁.heap.Ns b m → (hidT s₁.heap H).Ns b m := fun {b m} ⟨o, es, ep, e, d, r⟩ => ⟨o, es, ep, base_of e (noA e d), d, r⟩
    have hKb : K.In (hidT s₁.heap H) := fun b o e => base_of (KX b o e) (by
      cases q : H b with
      | none => rfl
      | some u =>
        have e' : b = a := hA b (by rw [q]; simp)
        subst e'
        rw [hK (by rw [q]; simp)] at e; cases e)
    have hM : Mod K mg (hidT s₁.heap H) := ⟨hKb, nsK hns, ⟨mb, nsK hb, hbb⟩, let ⟨mc, h1, h2⟩ := hlim; ⟨mc, nsK h1, h2⟩⟩
    have e0 : Env0 P w K mg (hidT s₁.heap H) callerA [] s₁ H := ⟨rfl, hM, fun b o e => of_hidT e, Nat.le_of_eq (hidT_size _ _), trivial, fun b hb => absurd (show b ∈ ([] : List Addr) from hb) (by simp), hok, .of_eq hg⟩
    refine codeAny_mono ((F _ hKb (nsK hns)).run callerA [] s₁ H ⟨[.ref a], []⟩ [.ref a] [.ref a] _ _ hr e0 (hbind s₁ (.ref a)) (.cons rfl .nil) (hsp H hO hS)) fun r s' h => ?_
    cases r with
    | error e => exact (hCX H e s' h).elim
    | ok fl =>
      cases fl with
      | next => exact False.elim h
      | brk => exact False.elim h
      | cont => exact False.elim h
      | ret u =>
        obtain ⟨v, H', os, bare, un, hok', r', q⟩ := h
        have q' : v = .bl true := q
        subst q'
        obtain rfl : u = Value.bool true := r'
        refine ⟨rfl, OldK.of_keep fun b o e => ?_, os, bare⟩
        cases q : H b with
        | none => exact un.keep b o e q (by intro z; exact absurd (show b ∈ ([] : List Addr) from z) (by simp)) (by simp)
        | some u =>
          rcases hO b with z | ⟨ob, xs, z⟩
          · rw [q] at z; cases z
          · have z2 := un.frzs b ob _ z
            obtain ⟨e1, _⟩ := hok b _ z
            obtain ⟨e2, _⟩ := hok' b _ z2
            rw [e] at e1; cases e1
            exact e2
  cases hk : K.lookup a with
  | some o =>
    -- the script is one of the module's own objects
    have e := KX a o hk
    rw [ha] at e
    cases e
    refine core (fun _ => none) (fun _ => .inl rfl) (.inr ⟨_, vs.toArray, _, hk, rfl, rfl, rfl, by rw [List.size_toArray, lenV]; exact hl, by simpa using rv⟩) (fun b u z => by have z' : (none : Option HO) = some u := z; cases z') (fun b z => absurd rfl z) fun z => absurd rfl z
  | none =>
    refine core (fun b => if b = a then some (.frz { cls := .type "list", data := .seq vs.toArray } (.lst (ns.map V.int))) else none) (fun b => ?_) (.inl (.inr ⟨{ cls := .type "list", data := .seq vs.toArray }, if_pos rfl⟩)) (fun b u z => ?_) (fun b z => ?_) fun _ => hk
    · by_cases hb : b = a
      · exact .inr ⟨_, _, if_pos hb⟩
      · exact .inl (if_neg hb)
    · by_cases hb : b = a
      · have z' := (if_pos hb).symm.trans z
        cases z'
        subst hb
        exact ⟨ha, by rw [List.length_map]; exact hl, vs, _, rv, ha⟩
      · have z' := (if_neg hb).symm.trans z
        cases z'
    · by_cases hb : b = a
      · exact hb
      · exact absurd (if_neg hb) z
end L2

namespace L2
open PySem PySem.Spec PyProof.Rows

abbrev KOf {K : PySem.W.Frag} {h : Heap} (_ : K.In h) : PySem.W.Frag := K

/-- the goal that k_head leaves (case hc), from the law's promise. F gives the function object fd (K's own) once, then the promise over every base -/
theorem walk_of {l : PySem.W.OpenLaw} {n k : Nat} {q : Program} {loose : List Str} {XP : (Str → Option Value) → Heap → Prop} {YP : World → Heap → Prop} {d : DefRec} {K : Params → PySem.W.Frag} {CX : World → CXT} {sp : World → Sp} {x : Str}
    (hn : l.most = some n) (hn2 : n ≤ sizeLine) (hdf : d.params.defaults = []) (hr : Room k callerA)
    (hY : ∀ (w : World) (h : Heap), YP w h → (K w.params).In h)
    (F : ∀ (w : World) (mg : Str → Option Value) (fa : Addr) (h : Heap), (K w.params).In h → h.Ns mainGlobals mg → mg d.name = some (.ref fa) →
      ∃ fd : FuncData, (∀ (s : Shared) (u : Value), BindsTo s fd ⟨[u], []⟩ [(x, u)]) ∧
        ∀ base : Heap, (K w.params).In base → base.Ns mainGlobals mg → FnOk l.prog w (K w.params) mg base (CX w) k fa fd [x] (sp w))
    (hsp : ∀ (w : World) (H : Hp) (a : Addr) (ns : List Int), ns.length ≤ n → Only H → SqL (K w.params) H a (ns.map V.int) → sp w [.ref a] H (fun v _ => v = .bl true) fun _ _ _ => False)
    (hCX : ∀ (w : World) (H : Hp) (s : Shared) (e : Value) (s' : Shared), CX w [] H s (fun _ _ _ => False) e s' → False) :
    PySem.W.WalkO q loose XP YP l.row.toRowW d [] (fun f vs => PySem.call f vs) := by
  refine Att.attach_call hn hdf fun w s₀ s₁ mg mb fa o pm cd doc a vs ns G Y ho hd hcd hmg hobj hints hlen hg => ?_
  have KX := hY w _ Y
  obtain ⟨fd, hb, hF⟩ := F w mg fa _ KX G.T.g hmg
  exact law_call KX G.T.g G.T.b G.T.builtins G.T.nolimit hg hobj hints (Nat.le_trans hlen hn2) hr hF hb (fun H hO hS => hsp w H a ns hlen hO hS) fun H e s' => hCX w H s₁ e s'
/-- the same where the promise hangs on the written part alone: (sp := My.sp_law), no hole under a binder -/
theorem walk_ofK {l : PySem.W.OpenLaw} {n k : Nat} {q : Program} {loose : List Str} {XP : (Str → Option Value) → Heap → Prop} {YP : World → Heap → Prop} {d : DefRec} {K : Params → PySem.W.Frag} {CX : CXT} {sp : PySem.W.Frag → Sp} {x : Str}
    (hn : l.most = some n) (hn2 : n ≤ sizeLine) (hdf : d.params.defaults = []) (hr : Room k callerA)
    (hY : ∀ (w : World) (h : Heap), YP w h → (K w.params).In h)
    (F : ∀ (w : World) (mg : Str → Option Value) (fa : Addr) (h : Heap), (K w.params).In h → h.Ns mainGlobals mg → mg d.name = some (.ref fa) →
      ∃ fd : FuncData, (∀ (s : Shared) (u : Value), BindsTo s fd ⟨[u], []⟩ [(x, u)]) ∧
        ∀ base : Heap, (K w.params).In base → base.Ns mainGlobals mg → FnOk l.prog w (K w.params) mg base CX k fa fd [x] (sp (K w.params)))
    (hsp : ∀ (K : PySem.W.Frag) (H : Hp) (a : Addr) (ns : List Int), ns.length ≤ n → Only H → SqL K H a (ns.map V.int) → sp K [.ref a] H (fun v _ => v = .bl true) fun _ _ _ => False)
    (hCX : ∀ (H : Hp) (s : Shared) (e : Value) (s' : Shared), CX [] H s (fun _ _ _ => False) e s' → False) :
    PySem.W.WalkO q loose XP YP l.row.toRowW d [] (fun f vs => PySem.call f vs) :=
  walk_of (K := K) (CX := fun _ => CX) (sp := fun w => sp (K w.params)) hn hn2 hdf hr hY F (fun w H a ns h1 h2 h3 => hsp (K w.params) H a ns h1 h2 h3) fun _ H s e s' => hCX H s e s'
end L2

/- THE LAST THEOREM (shape; LID, My.* are yours):
   My.Adr: a structure of the addresses that your layer names (classes, functions); My.Txt K t: a structure (Prop) of the equations over K;
   My.txt_mk : {K} {implicit addresses ..} (e1 : nsIn K mainGlobals "law" = some (some (.ref f))) (e2 : K.lookup f = some ⟨oc, od, .func (fnOf "law" "law" params body scope dV kV doc pm an cdv ct), sl⟩) (e3 : codeIn K cdv "law" = true) .. : ∃ t, My.Txt K t

set_option maxRecDepth 100000 in
set_option maxHeartbeats 0 in
theorem PySem.Challenge.cw_LID_holds : PySem.Challenge.rw_LID.Holds := by
  w_on; o_law; k_head; (case hw => w_witness2)
  k_fill
  refine L2.walk_of (l := PySem.Challenge.rw_LID) (n := 63) (k := 40) (x := "script") (CX := fun w => ..) (sp := fun _ => My.sp_law) rfl (by decide) rfl ⟨rfl, by decide, by decide⟩ (fun w h Y => PySem.W.kIn_of Y) ?F ?S ?C
  case F =>
    intro w mg fa h KX G hmg
    have T : ∃ t, My.Txt (L2.KOf KX) t := by
      dsimp only [L2.KOf]                          -- K must stand as «<heap const> w.params» for k_is
      refine' My.txt_mk ?e1 ?e2 ?e3 ..
      (case e1 => PySem.W.k_is)                    -- in the order: a name -> its address -> its object -> its parts
      (case e2 => PySem.W.k_is)
      ..
    obtain ⟨t, T⟩ := T
    have e0 := hmg.symm.trans (PySem.W.mg_of KX G T.law)
    cases e0                                       -- fa is the law's own address
    exact ⟨_, fun s u => .of_eq rfl, fun base kb nb => My.law_fn T kb nb⟩     -- if «.of_eq rfl» comes too early: refine' ⟨_, ?b, fun base kb nb => My.law_fn T kb nb⟩; exact fun s u => .of_eq rfl
  case S => exact fun w H a ns hl hO hS => ..
  case C => exact ..
(the tactic k_is has no namespace: write k_is) -/

/-! SHORT WORDS over the layer: a def of the text, its body, what a loop and a test want. -/
namespace L2
open PySem PySem.Spec PyProof.Rows

/-! ### the text by places -/
/-- the j-th statement of a class's body -/
def inClass (s : Stmt) (j : Nat) : Stmt := match s with
  | .ClassDef _ _ _ body _ _ _ _ _ _ _ => body.getD j (.Pass ⟨0, 0, 0, 0⟩)
  | _ => .Pass ⟨0, 0, 0, 0⟩
def defArgs (s : Stmt) : Arguments := match s with
  | .FunctionDef _ a _ _ _ _ _ _ _ _ => a
  | _ => { posonlyargs := [], args := [], vararg := none, kwonlyargs := [], kw_defaults := [], kwarg := none, defaults := [] }
def defBody (s : Stmt) : List Stmt := match s with
  | .FunctionDef _ _ b _ _ _ _ _ _ _ => b
  | _ => []
def defScope (s : Stmt) : Scope := match s with
  | .FunctionDef _ _ _ _ _ _ sc _ _ _ => sc
  | _ => { kind := .function, names := [], isGenerator := false, isCoroutine := false }

/-! ### no exception leaves a def -/
abbrev CX0 : CXT := fun _ _ _ _ _ _ => False
abbrev E0 : XK := fun _ _ _ => False
theorem pass0 {X : Cx} : Passes CX0 X E0 := fun _ _ _ _ _ _ _ h => h.elim

/-! ### a def (or method) of the text as it stands behind the top -/
structure Fun (K : PySem.W.Frag) (x qual : Str) (st : Stmt) (f : Addr) (fd : FuncData) : Prop where
  ex : ∃ (oc : Value) (od : Option Addr) (kV doc pm : Value) (an : Option Addr) (cdv ct : Value) (osl : Array (Option Value)),
    fd = PySem.W.fnOf x qual (defArgs st) (defBody st) (defScope st) .none kV doc pm an cdv ct ∧ K.lookup f = some ⟨oc, od, .func fd, osl⟩ ∧ PySem.W.codeIn K cdv qual = true
  kp : PySem.W.keepIn K (.ref f) = true
section
variable {P : Program} {w : World} {K : PySem.W.Frag} {mg : Str → Option Value} {base : Heap}
/-- THE RULE for a def: its body as a term of rules, and the reading of that term -/
theorem Fun.ok {x qual : Str} {st : Stmt} {f : Addr} {fd : FuncData} {N ps : List Str} {k : Nat} {sp : Sp} (F : Fun K x qual st f fd) (S : FnScope N ps (defScope st)) (len : ∀ vs H Q E, sp vs H Q E → vs.length = ps.length)
    (hbody : ∀ (cdv : Value) (A : Around) (outer : List Env) (s : Shared) (H : Hp) (vs : List V) (Q : VK) (E : XK), Room k (A.deeper (envOfC qual (defScope st) s.heap.objs.size f cdv)) → sp vs H Q E →
      ∃ t, PSs (cxOf CX0 P w K mg base N qual (defScope st) f cdv A outer s H E).nox (defBody st) t ∧ t { nx := fun _ H' => Q .non H', rt := Q } (start N vs) H) : FnOk P w K mg base CX0 (k + 1) f fd ps sp := by
  obtain ⟨oc, od, kV, doc, pm, an, cdv, ct, osl, rfl, lk, hcd⟩ := F.ex
  refine fn_of lk hcd S len fun A outer s H vs Q E hr hsp => ?_
  obtain ⟨t, h, q⟩ := hbody cdv A outer s H vs Q E hr hsp
  exact ⟨t, h.nox, q⟩
/-- how its arguments bind (no defaults): h is «fun _ _ _ _ _ _ us hl => match us, hl with | [_, _], _ => rfl», one _ a parameter -/
theorem Fun.binds {x qual : Str} {st : Stmt} {f : Addr} {fd : FuncData} {ps : List Str} (F : Fun K x qual st f fd)
    (h : ∀ (kV doc pm : Value) (an : Option Addr) (cdv ct : Value) (us : List Value), us.length = ps.length → bindArgs (PySem.W.fnOf x qual (defArgs st) (defBody st) (defScope st) .none kV doc pm an cdv ct) ⟨us, []⟩ = pure (ps.zip us)) : Binds K fd ps [] := by
  obtain ⟨oc, od, kV, doc, pm, an, cdv, ct, osl, rfl, lk, hcd⟩ := F.ex
  exact .all (h kV doc pm an cdv ct)
theorem fun_mk {x qual : Str} {st : Stmt} {f : Addr} {oc : Value} {od an : Option Addr} {osl : Array (Option Value)} {kV doc pm cdv ct : Value} (l : K.lookup f = some ⟨oc, od, .func (PySem.W.fnOf x qual (defArgs st) (defBody st) (defScope st) .none kV doc pm an cdv ct), osl⟩)
    (c : PySem.W.codeIn K cdv qual = true) (k : PySem.W.keepIn K (.ref f) = true) : Fun K x qual st f (PySem.W.fnOf x qual (defArgs st) (defBody st) (defScope st) .none kV doc pm an cdv ct) := ⟨⟨oc, od, kV, doc, pm, an, cdv, ct, osl, rfl, l, c⟩, k⟩
end
theorem hu_of {A : Around} {k : Nat} (hr : Room k A) : A.units + 1 < cLine := Nat.lt_of_le_of_lt (Nat.add_le_add_left (by decide : 1 ≤ 64) _) hr.units
theorem small1000 {n : Nat} (h : n ≤ 1000) : n < sizeLine := Nat.lt_of_le_of_lt h (by decide)

/-! ### expressions in short: the name that stands in the i-th slot -/
section
variable {X : Cx}
theorem pv (i : Nat) {x : Str} {pos : Pos} (hN : X.N[i]? = some x := by rfl) (hv : Vis X.env.scope x := by first | exact Or.inl rfl | exact Or.inr (Or.inl rfl) | exact Or.inr (Or.inr rfl)) (hd : (x == ("__debug__" : Str)) = false := by decide)
    (hcd : (x == ("__classdict__" : Str)) = false := by decide) : PE X (.Name x pos) (tVar i) := pe_var hN hv hd hcd
end

/-! ### tests -/
theorem iteF {A B : Prop} (h : B) : if false = true then A else B := by
  rw [if_neg Bool.false_ne_true]
  exact h
theorem iteT {A B : Prop} (h : A) : if true = true then A else B := by
  rw [if_pos rfl]
  exact h
theorem ite2 {c A B : Prop} [Decidable c] (h1 : c → A) (h2 : ¬ c → B) : if c then A else B := by
  by_cases h : c
  · rw [if_pos h]
    exact h1 h
  · rw [if_neg h]
    exact h2 h
theorem iteNS {c A B : Prop} [Decidable c] (hc : c) (h : B) : if (!decide c) = true then A else B := by
  rw [decide_eq_true hc]
  exact iteF h

/-! ### heaps -/
/-- all that was tracked is as it was -/
def Same (H H' : Hp) : Prop := ∀ b o, H b = some o → H' b = some o
theorem Same.refl (H : Hp) : Same H H := fun _ _ h => h
theorem Same.trans {H H1 H2 : Hp} (a : Same H H1) (b : Same H1 H2) : Same H H2 := fun c o h => b c o (a c o h)
theorem Same.free {H H' : Hp} (e : Same H H') {l : Addr} (h : H' l = Option.none) : H l = Option.none := by
  cases q : H l with
  | none => rfl
  | some o =>
    rw [e l o q] at h
    cases h
theorem Same.seq {K : PySem.W.Frag} {H H' : Hp} {a : Addr} {xs : List V} (e : Same H H') (h : SqL K H a xs) : SqL K H' a xs := by
  rcases h with (h | ⟨o, h⟩) | h
  · exact .inl (.inl (e _ _ h))
  · exact .inl (.inr ⟨o, e _ _ h⟩)
  · exact .inr h

end L2

set_option Elab.async false
set_option linter.all false
set_option maxRecDepth 100000
set_option maxHeartbeats 4000000
namespace L2
open PySem PySem.Spec PyProof.Rows

/-! ### a comprehension's block -/
/-- what a block's free names hold at its start -/
def cSt (src : List (Option Nat)) (σ : St) : St := src.map fun o => match o with | some j => σ.getD j none | none => none
theorem cSt_get {src : List (Option Nat)} {σ : St} {i : Nat} {v : V} (h : (cSt src σ)[i]? = some (some v)) : ∃ j, src[i]? = some (some j) ∧ σ[j]? = some (some v) := by
  unfold cSt at h
  rw [List.getElem?_map] at h
  cases e : src[i]? with
  | none => rw [e] at h; cases h
  | some o =>
    rw [e] at h
    cases o with
    | none => cases h
    | some j =>
      refine ⟨j, rfl, ?_⟩
      have h' : σ.getD j none = some v := Option.some.inj h
      rw [List.getD_eq_getElem?_getD] at h'
      cases e2 : σ[j]? with
      | none => rw [e2] at h'; cases h'
      | some o => rw [e2] at h'; rw [show o = some v from h']
/-- the block's names against the scope and the names around -/
structure BlkScope (NB : List Str) (src : List (Option Nat)) (scope : Scope) (X : Cx) : Prop where
  kind : scope.kind = .function
  nd : NB.Nodup
  len : src.length = NB.length
  nocell : ∀ y ∈ scope.names, y.2 ≠ .cell
  names : ∀ y ∈ scope.names, y.2 = .local → scope.names.lookup y.1 = some .local
  free : ∀ y ∈ scope.names, y.2 = .free → X.env.scope.names.lookup y.1 = some .cell ∨ X.env.scope.names.lookup y.1 = some .free
  src : ∀ (i : Nat) (x : Str) (j : Nat), NB[i]? = some x → src[i]? = some (some j) → X.N[j]? = some x ∧ scope.names.lookup x = some .free

def blk (X : Cx) (NB : List Str) (scope : Scope) (cl : List (Str × Addr)) (C : Addr) (s₃ : Shared) (H₃ : Hp) (fp : List Addr) : Cx :=
  { X with N := NB, s₀ := s₃, H₀ := H₃, env := compEnvC scope cl C X.env, outer := X.stack, stack := X.stack, ex := fp, fn := fun _ => false, pn := [], xe := fun _ _ => False }

theorem closure_go {env : Env} : ∀ (names : List (Str × NameKind)) (acc : List (Str × Addr)), (∀ y ∈ names, y.2 = NameKind.free → ∃ c, env.cells.lookup y.1 = some c) → (∀ x c, acc.lookup x = some c → env.cells.lookup x = some c) →
    ∃ cl, (forIn names acc fun x r => (if (x.2 == NameKind.free) = true then (do let a ← cellOf env x.1; pure (ForInStep.yield ((x.1, a) :: r))) else pure (ForInStep.yield r) : Sem (ForInStep (List (Str × Addr))))) = (pure cl : Sem (List (Str × Addr))) ∧
      (∀ x c, cl.lookup x = some c → env.cells.lookup x = some c) ∧ (∀ x c, acc.lookup x = some c → ∃ c', cl.lookup x = some c') ∧ ∀ x, (x, NameKind.free) ∈ names → ∃ c, cl.lookup x = some c
  | [], acc, _, ha => ⟨acc, by rw [List.forIn_nil], ha, fun x c h => ⟨c, h⟩, fun x h => nomatch h⟩
  | (n, k) :: r, acc, hf, ha => by
    by_cases hk : k = NameKind.free
    · subst hk
      obtain ⟨c, hc⟩ := hf (n, NameKind.free) List.mem_cons_self rfl
      have ha' : ∀ x c', ((n, c) :: acc).lookup x = some c' → env.cells.lookup x = some c' := fun x c' h => by
        rw [List.lookup_cons] at h
        cases hx : x == n with
        | true =>
          rw [hx] at h
          cases h
          have : x = n := by simpa using hx
          rw [this]; exact hc
        | false => rw [hx] at h; exact ha x c' h
      obtain ⟨cl, e1, e2, e3, e4⟩ := closure_go r ((n, c) :: acc) (fun y hy => hf y (List.mem_cons_of_mem _ hy)) ha'
      refine ⟨cl, ?_, e2, fun x c' h => ?_, fun x h => ?_⟩
      · rw [List.forIn_cons]
        have ec : cellOf env n = pure c := by unfold cellOf; rw [hc]
        have e0 : (if ((n, NameKind.free).2 == NameKind.free) = true then (do let a ← cellOf env (n, NameKind.free).1; pure (ForInStep.yield (((n, NameKind.free).1, a) :: acc))) else pure (ForInStep.yield acc) : Sem (ForInStep (List (Str × Addr)))) = pure (ForInStep.yield ((n, c) :: acc)) := by
          rw [if_pos (show (NameKind.free == NameKind.free) = true by decide)]
          show cellOf env n >>= _ = _
          rw [ec]; rfl
        rw [e0]
        exact e1
      · cases hx : x == n with
        | true => exact e3 x c (by rw [List.lookup_cons, hx])
        | false => exact e3 x c' (by rw [List.lookup_cons, hx]; exact h)
      · rcases List.mem_cons.mp h with h | h
        · cases h
          exact e3 n c (by rw [List.lookup_cons]; simp)
        · exact e4 x h
    · obtain ⟨cl, e1, e2, e3, e4⟩ := closure_go r acc (fun y hy => hf y (List.mem_cons_of_mem _ hy)) ha
      refine ⟨cl, ?_, e2, e3, fun x h => ?_⟩
      · rw [List.forIn_cons]
        have hb : (k == NameKind.free) = false := by simpa using hk
        have e0 : (if ((n, k).2 == NameKind.free) = true then (do let a ← cellOf env (n, k).1; pure (ForInStep.yield (((n, k).1, a) :: acc))) else pure (ForInStep.yield acc) : Sem (ForInStep (List (Str × Addr)))) = pure (ForInStep.yield acc) := by
          rw [if_neg (by show ¬ (k == NameKind.free) = true; rw [hb]; decide)]
        rw [e0]
        exact e1
      · rcases List.mem_cons.mp h with h | h
        · cases h; exact absurd rfl hk
        · exact e4 x h
theorem closure_ex {X : Cx} (ok : X.Ok) {NB : List Str} {src : List (Option Nat)} {scope : Scope} (S : BlkScope NB src scope X) :
    ∃ cl, closureFor scope X.env = pure cl ∧ (∀ x c, cl.lookup x = some c → X.env.cells.lookup x = some c) ∧ ∀ x, (x, NameKind.free) ∈ scope.names → ∃ c, cl.lookup x = some c := by
  obtain ⟨cl, e1, e2, _, e4⟩ := closure_go (env := X.env) scope.names [] (fun y hy hk => ok.has y.1 (S.free y hy hk)) (fun x c h => nomatch h)
  refine ⟨cl, ?_, e2, e4⟩
  unfold closureFor
  simp only [bind_pure]
  exact e1

theorem relabel_free {scope : Scope} {env : Env} {x : Str} (h : scope.names.lookup x = some .free) : (relabel scope env).names.lookup x = some .cell ∨ (relabel scope env).names.lookup x = some .free := by
  have go : ∀ names : List (Str × NameKind), names.lookup x = some .free →
      (names.map fun (n, k) => if (k == NameKind.free && env.scope.kind == .function && env.kindOf n == some .cell) then (n, NameKind.cell) else (n, k)).lookup x = some .cell ∨
      (names.map fun (n, k) => if (k == NameKind.free && env.scope.kind == .function && env.kindOf n == some .cell) then (n, NameKind.cell) else (n, k)).lookup x = some .free := by
    intro names
    induction names with
    | nil => intro h; simp at h
    | cons y r ih =>
      intro h
      obtain ⟨n, k⟩ := y
      rw [List.lookup_cons] at h
      rw [List.map_cons]
      cases hx : x == n with
      | true =>
        rw [hx] at h
        cases h
        by_cases hc : (NameKind.free == NameKind.free && env.scope.kind == .function && env.kindOf n == some .cell) = true
        · left; show List.lookup x ((if _ then _ else _) :: _) = _; rw [if_pos hc, List.lookup_cons, hx]
        · right; show List.lookup x ((if _ then _ else _) :: _) = _; rw [if_neg hc, List.lookup_cons, hx]
      | false =>
        rw [hx] at h
        by_cases hc : (k == NameKind.free && env.scope.kind == .function && env.kindOf n == some .cell) = true
        · show List.lookup x ((if _ then _ else _) :: _) = _ ∨ List.lookup x ((if _ then _ else _) :: _) = _
          rw [if_pos hc, List.lookup_cons, hx]; exact ih h
        · show List.lookup x ((if _ then _ else _) :: _) = _ ∨ List.lookup x ((if _ then _ else _) :: _) = _
          rw [if_neg hc, List.lookup_cons, hx]; exact ih h
  exact go scope.names h
/-- where the relabelled scope says cell or free, the scope says free -/
theorem relabel_back {scope : Scope} {env : Env} {x : Str} {k : NameKind} (hc : ∀ y ∈ scope.names, y.2 ≠ .cell) (h : (relabel scope env).names.lookup x = some k) (hk : k = .cell ∨ k = .free) : (x, NameKind.free) ∈ scope.names := by
  have m := PySem.mem_of_lookup h
  obtain ⟨⟨n, k'⟩, hm, e⟩ := List.mem_map.mp m
  by_cases q : (k' == NameKind.free && env.scope.kind == .function && env.kindOf n == some .cell) = true
  · have e' : (n, NameKind.cell) = (x, k) := by simpa [q] using e
    have k1 : k' = NameKind.free := by
      simp only [Bool.and_eq_true, beq_iff_eq] at q
      exact q.1.1
    cases e'
    rw [← k1]; exact hm
  · have e' : (n, k') = (x, k) := by simpa [q] using e
    cases e'
    rcases hk with z | z
    · subst z; exact absurd rfl (hc _ hm)
    · subst z; exact hm

section
variable {X : Cx} {pins : List (Addr × Obj)} {σ : St} {H : Hp} {s : Shared} {NB : List Str} {src : List (Option Nat)} {scope : Scope} {cl : List (Str × Addr)} {fp : List Addr} {h₁ : Heap} {t₁ : Nat}
theorem inv_blk (I : Inv X pins σ H s) (S : BlkScope NB src scope X) (c1 : ∀ x c, cl.lookup x = some c → X.env.cells.lookup x = some c) (c2 : ∀ x, (x, NameKind.free) ∈ scope.names → ∃ c, cl.lookup x = some c)
    (hf : ∀ b ∈ fp, FpOk X pins H b) (hfo : ∀ b ∈ fp, b < s.heap.objs.size) {m : Str → Option Value} (hn : h₁.Ns s.heap.objs.size m) (hk : ∀ b o, s.heap.get? b = some o → h₁.get? b = some o) :
    Inv (blk X NB scope cl s.heap.objs.size s H fp) [] (cSt src σ) H { s with heap := h₁, toks := t₁ } := by
  have stk : ∀ b ∈ frs X.stack, b ∈ X.env.locals :: X.fs := I.stkSub
  have cellOk : ∀ x c, cl.lookup x = some c → ∃ v, s.heap.IsCell c v := fun x c e => I.cell x c (c1 x c e)
  refine ⟨⟨I.ok.mod, S.kind, I.ok.glob, I.ok.blt, Nat.le_refl _, fun x y c e1 e2 => I.ok.inj x y c (c1 x c e1) (c1 y c e2), fun x hx => ?_, fun x c z => absurd z (by show ¬ (false = true); decide), I.ok.hd, I.ok.frames, .inl rfl, fun b hb => ⟨?_, fun x c e => ?_⟩, I.bs, Nat.le_trans I.ok.bsz I.sz, fun b o e hb => ?_, fun b hb => ?_, I.stack, I.stkFree⟩,
    rfl, I.bare, Un.kept hk, ⟨m, hn, fun i x v e1 e2 e3 => ?_⟩, fun x c e => ?_, I.hok.fresh (Nat.le_refl _), fun x c e => I.freeC x c (c1 x c e), fun p hp => absurd (show p ∈ ([] : List (Addr × Obj)) from hp) (by simp), I.hok.kept hk, ?_⟩
  · rcases hx with hx | hx
    · exact c2 x (relabel_back S.nocell hx (.inl rfl))
    · exact c2 x (relabel_back S.nocell hx (.inr rfl))
  · exact Nat.ne_of_lt (hfo b hb)
  · exact (hf b hb).2.2.2.2.1 x c (c1 x c e)
  · rcases (hf b hb).2.2.2.1 with z | z
    · exact I.ok.noex b o e z
    · exact absurd (Nat.lt_of_lt_of_le (Heap.lt_size e) (Nat.le_trans I.ok.bsz z)) (Nat.lt_irrefl _)
  · intro z
    rcases List.mem_cons.mp (stk b z) with e | e
    · exact (hf b hb).2.1 e
    · exact (hf b hb).2.2.1 e
  · obtain ⟨j, hj, hv⟩ := cSt_get e2
    obtain ⟨hN, hF⟩ := S.src i x j e1 hj
    obtain ⟨m0, hn0, hl0⟩ := I.loc
    have hmem := PySem.mem_of_lookup hF
    have kx := S.free _ hmem rfl
    have vis : Vis X.env.scope x := by
      rcases kx with z | z
      · exact .inr (.inl z)
      · exact .inr (.inr z)
    obtain ⟨u, r, l⟩ := hl0 j x v hN hv vis
    refine ⟨u, r, .inr ⟨relabel_free hF, ?_⟩⟩
    obtain ⟨c, hc⟩ := c2 x hmem
    refine ⟨c, hc, ?_⟩
    rcases l with ⟨hk', _⟩ | ⟨_, c', e, z⟩
    · have hk'' : X.env.scope.names.lookup x = some .local := hk'
      rcases kx with z | z <;> (rw [z] at hk''; cases hk'')
    · rw [c1 x c hc] at e
      cases e
      obtain ⟨o, ho, hd⟩ := z
      exact ⟨o, hk _ _ ho, hd⟩
  · obtain ⟨v, o, ho, hd⟩ := cellOk x c e
    exact ⟨v, o, hk _ _ ho, hd⟩
  · show (cSt src σ).length = NB.length
    unfold cSt
    rw [List.length_map]
    exact S.len
/-- behind the block -/
theorem Inv.unblk {C : Addr} {σB : St} {H' : Hp} {s' : Shared} (I : Inv X pins σ H s) (J : Inv (blk X NB scope cl C s H fp) [] σB H' s') (hf : ∀ b ∈ fp, FpOk X pins H b) : Inv X pins σ H' s' := by
  refine I.call' (ch := fp) J.os J.base J.hok J.bare fun b hb => ?_
  obtain ⟨_, f1, _, f3, f4, f5⟩ := hf b hb
  exact ⟨f3, f1, f4, f5⟩
end

/-! ### the tests of a clause -/
def PTs (X : Cx) (ifs : List Expr) (t : TT) : Prop :=
  ∀ (pins : List (Addr × Obj)) (s : Shared) (σ : St) (H : Hp) (Q : Bool → Hp → Prop), Inv X pins σ H s → t σ H Q →
    wpAny (model X.prog X.w) X.A (forIn ifs true fun c r => if r = true then do let ok ← isTrue c X.env (eval c X.env); pure (ForInStep.yield ok) else pure (ForInStep.yield r)) (TP X pins σ Q) X.xe s
def tYes : TT := fun _ H Q => Q true H
theorem pts_nil {X : Cx} : PTs X [] tYes := fun _ _ _ H _ I h => wpAny_tests_nil ⟨H, I, h⟩
theorem pts_one {X : Cx} {c : Expr} {t : TT} (h : PT X c t) : PTs X [c] t := fun pins s σ H Q I q => wpAny_tests_one (h pins s σ H Q I q)

/-- the walk of a clause: W by turn and measure, D the list that grows -/
def CompW (J : It) (g : TG) (tt : TT) (te : TE) (D : Addr) (fin : Hp → Prop) (σB : St) (H1 : Hp) : Prop :=
  ∃ W : Nat → Nat → St → Hp → Prop, (∃ m, W 0 m σB H1) ∧ ∀ i m σ H, W i m σ H → (J.stop i H ∧ fin H) ∨ (J.go i H ∧ ∀ x H', J.yld i H x H' → g x σ H' fun σ2 H2 => tt σ2 H2 fun b H3 =>
    if b = true then te σ2 H3 fun v H4 => ∃ ys, H4 D = some (.lst ys) ∧ ys.length < sizeLine ∧ ∃ m', m' < m ∧ W (i + 1) m' σ2 (upd H4 D (.lst (ys ++ [v]))) else ∃ m', m' < m ∧ W (i + 1) m' σ2 H3)

theorem comp_loop {B : Cx} {elt tg iter : Expr} {ifs : List Expr} {scope : Scope} {pos : Pos} {J : It} {g : TG} {tt : TT} {te : TE} {D it : Addr} {fp : List Addr} {tn : Nat → Heap → Prop} {fin : Hp → Prop} {R : Result → Shared → Prop} {s : Shared} {σB : St} {H1 : Hp}
    (hx : B.xe = fun _ _ => False) (hc : B.calm = true) (T : Turn B.prog B.w B.K tg J fp it tn) (hg : PG B tg g) (ht : PTs B ifs tt) (he : PE B elt te) (I : Inv B [] σB H1 s) (st : tn 0 s.heap) (hf : ∀ b ∈ fp, FpOk B [] H1 b)
    (hw : CompW J g tt te D fin σB H1) (hR : ∀ σ' H' s', Inv B [] σ' H' s' → fin H' → R (.ok .next) s') :
    codeAny (model B.prog B.w) B.A (.compLoop (.ListComp elt [⟨tg, iter, ifs, 0⟩] scope pos) 0 (.ref it) (.ref D) B.env) R s := by
  obtain ⟨W, ⟨m0, w0⟩, turn⟩ := hw
  have stat : ∀ {H' : Hp}, (∀ b ∈ fp, H' b = none) → ∀ b ∈ fp, FpOk B [] H' b := fun hn b hb => ⟨hn b hb, (hf b hb).2⟩
  refine codeAny_loop rfl (fun n s' => ∃ i σ' H', Inv B [] σ' H' s' ∧ tn i s'.heap ∧ (∀ b ∈ fp, H' b = none) ∧ W i n σ' H') ?_ m0 ⟨0, σB, H1, I, st, fun b hb => (hf b hb).1, w0⟩
  rintro n s3 ⟨i, σ3, H3, I3, st3, fr3, w3⟩
  show wpAny _ B.A ((compTurn (.ListComp elt [⟨tg, iter, ifs, 0⟩] scope pos) 0 (.ref it) (.ref D) B.env).onRaise (fun x => do noteFrame x B.env; theTreesLotGoes x)) _ _ s3
  refine wpAny_noted ?_
  rw [compTurn_list]
  have nx : ∀ {α : Type} {t : Sem α} {Q : α → Shared → Prop} {E' : Value → Shared → Prop} {s : Shared}, wpAny (model B.prog B.w) B.A t Q B.xe s → wpAny (model B.prog B.w) B.A t Q E' s := fun h =>
    wpAny_mono h (fun _ _ q => q) fun _ _ z => by rw [hx] at z; exact z.elim
  rcases turn i n σ3 H3 w3 with ⟨stop, qn⟩ | ⟨go, step⟩
  · refine wpAny_bind (wpAny_standAt (wpAny_bind (thn (T.done B rfl rfl rfl hc i [] s3 σ3 H3 _ I3 (stat fr3) st3 stop) fun r s4 ⟨hr, I4⟩ => ?_)))
    subst hr
    exact wpAny_pure (hR σ3 H3 s4 I4 qn)
  · refine wpAny_bind (wpAny_standAt (wpAny_bind (thn (T.item B rfl rfl rfl hc i [] s3 σ3 H3 _ I3 (stat fr3) st3 go) fun r s4 ⟨u, hr, h4⟩ => ?_)))
    subst hr
    refine wpAny_bind (thn h4 fun _ s5 ⟨x, H5, I5, r5, y5, st5, fr5⟩ => ?_)
    have I5' := I5.pinned (stat fr5) (T.obj _ _ st5)
    refine wpAny_bind (nx (thn (hg _ s5 σ3 H5 x u _ I5' r5 (step x H5 y5)) fun _ s6 ⟨σ6, H6, I6, q6⟩ => ?_))
    have back : ∀ {σ7 : St} {H7 : Hp} {s7 : Shared} {m' : Nat}, Inv B ([] ++ pinsAt fp s5.heap) σ7 H7 s7 → m' < n → W (i + 1) m' σ7 H7 → ∃ m, m < n ∧ ∃ i σ' H', Inv B [] σ' H' s7 ∧ tn i s7.heap ∧ (∀ b ∈ fp, H' b = none) ∧ W i m σ' H' := fun {σ7 H7 s7 m'} I7 hm w7 => by
      refine ⟨m', hm, i + 1, σ7, H7, I7.unpinned, T.keep _ _ _ st5 fun b hb o e => (I7.pin (b, o) (List.mem_append_right _ (List.mem_append_right _ (mem_pinsAt hb e)))).1, fun b hb => ?_, w7⟩
      obtain ⟨o, e, d⟩ := T.obj _ _ st5 b hb
      exact (I7.pin (b, o) (List.mem_append_right _ (List.mem_append_right _ (mem_pinsAt hb e)))).2.1
    refine wpAny_bind (nx (thn (ht _ s6 σ6 H6 _ I6 q6) fun ok s7 ⟨H7, I7, q7⟩ => ?_))
    cases ok with
    | false =>
      rw [if_neg Bool.false_ne_true] at q7
      obtain ⟨m', hm, w7⟩ := q7
      exact wpAny_pure ⟨rfl, back I7 hm w7⟩
    | true =>
      rw [if_pos rfl] at q7
      refine wpAny_bind (wpAny_bind (nx (thn (he _ s7 σ6 H7 _ I7 q7) fun v s8 ⟨y, H8, I8, r8, ys, hD, hl, m', hm, w8⟩ => ?_)))
      refine wpAny_bind (nx (thn (mt_append _ s8 σ6 H8 (.ref D) [y] (.ref D) [v] (fun _ H9 => H9 = upd H8 D (.lst (ys ++ [y]))) I8 rfl (.cons r8 .nil) ⟨D, ys, y, rfl, rfl, hD, hl, rfl⟩) fun _ s9 ⟨_, H9, I9, _, e9⟩ => ?_))
      subst e9
      exact wpAny_pure (wpAny_pure ⟨rfl, back I9 hm w8⟩)
end L2

set_option Elab.async false
set_option linter.all false
set_option maxRecDepth 100000
set_option maxHeartbeats 4000000
namespace L2
open PySem PySem.Spec PyProof.Rows
section
variable {X : Cx} {elt tg iter : Expr} {ifs : List Expr} {scope : Scope} {pos : Pos} {wi : TI} {g : TG} {tt : TT} {te : TE} {NB : List Str} {src : List (Option Nat)}
/-- a list comprehension of one clause: src, where the block's names come from -/
def tComp (src : List (Option Nat)) (wi : TI) (g : TG) (tt : TT) (te : TE) : TE := fun σ H Q => wi σ H fun J H1 => ∀ D, H1 D = none → CompW J g tt te D (fun H' => Q (.ref D) H') (cSt src σ) (upd H1 D (.lst []))
/-- the block from the made iterator on -/
theorem comp_block {pins : List (Addr × Obj)} {σ : St} {H2 : Hp} {s2 : Shared} {J : It} {fp : List Addr} {it : Addr} {tn : Nat → Heap → Prop} {cl : List (Str × Addr)} {fin : Addr → Hp → Prop} {E' : Value → Shared → Prop} {RR : Value → Addr → Result → Shared → Prop}
    (S : BlkScope NB src scope X) (hc : X.calm = true) (c1 : ∀ x c, cl.lookup x = some c → X.env.cells.lookup x = some c) (c2 : ∀ x, (x, NameKind.free) ∈ scope.names → ∃ c, cl.lookup x = some c)
    (hg : ∀ cl C s₃ H₃ fp, PG (blk X NB scope cl C s₃ H₃ fp) tg g) (ht : ∀ cl C s₃ H₃ fp, PTs (blk X NB scope cl C s₃ H₃ fp) ifs tt) (he : ∀ cl C s₃ H₃ fp, PE (blk X NB scope cl C s₃ H₃ fp) elt te)
    (I2 : Inv X pins σ H2 s2) (T : Turn X.prog X.w X.K tg J fp it tn) (st2 : tn 0 s2.heap) (f2 : ∀ b ∈ fp, FpOk X pins H2 b)
    (hw : ∀ D, H2 D = none → CompW J g tt te D (fin D) (cSt src σ) (upd H2 D (.lst [])))
    (hR : ∀ D C H' s', FpOk X pins H' C → Inv X pins σ H' s' → (∃ m, s'.heap.Ns C m) → fin D H' → RR (.ref D) C (.ok .next) s') :
    wpAny (model X.prog X.w) X.A (newList []) (fun acc s₃ => wpAny (model X.prog X.w) X.A (newFunctionEnv scope X.env.globals cl [] X.env.qual none .none (some X.env)) (fun cenv s₄ =>
      codeAny (model X.prog X.w) X.A (.compStart (.ListComp elt [⟨tg, iter, ifs, 0⟩] scope pos) 0 (.ref it) acc { cenv with scope := relabel scope X.env }) (RR acc cenv.locals) s₄) E' s₃) E' s2 := by
  refine wpAny_newObj_type (wpAny_newFunctionEnv S.nocell (by intro y hy; simp at hy) (fun h₁ hns₁ hsb₁ => ?_) S.kind)
  have I3 := I2.lnew (ys := []) (its := []) (t' := s2.toks) .nil (Nat.zero_le _)
  have hD : H2 s2.heap.objs.size = none := I2.fresh
  have fo : ∀ b ∈ fp, b < s2.heap.objs.size := fun b hb => by obtain ⟨o, e, _⟩ := T.obj _ _ st2 b hb; exact Heap.lt_size e
  have up : ∀ {b : Addr}, b ∈ fp → upd H2 s2.heap.objs.size (.lst []) b = H2 b := fun {b} hb => upd_ne (Nat.ne_of_lt (fo b hb))
  have f3 : ∀ b ∈ fp, FpOk X pins (upd H2 s2.heap.objs.size (.lst [])) b := fun b hb => ⟨by rw [up hb]; exact (f2 b hb).1, (f2 b hb).2⟩
  have hsz : (s2.heap.push { cls := .type "list", data := .seq ([] : List Value).toArray }).objs.size = s2.heap.objs.size + 1 := by rw [Heap.size_push]
  generalize hs3 : ({ s2 with heap := s2.heap.push { cls := .type "list", data := .seq ([] : List Value).toArray } } : Shared) = s3 at I3 hns₁ hsb₁ ⊢
  have hh3 : s3.heap = s2.heap.push { cls := .type "list", data := .seq ([] : List Value).toArray } := by rw [← hs3]
  have fo3 : ∀ b ∈ fp, b < s3.heap.objs.size := fun b hb => by rw [hh3, hsz]; exact Nat.lt_succ_of_lt (fo b hb)
  have keep : ∀ b o, s3.heap.get? b = some o → h₁.get? b = some o := fun b o e => hsb₁.extBut b o (Nat.ne_of_lt (Heap.lt_size e)) (Heap.get?_push_of_some _ e)
  have IB : Inv (blk X NB scope cl s3.heap.objs.size s3 (upd H2 s2.heap.objs.size (.lst [])) fp) [] (cSt src σ) (upd H2 s2.heap.objs.size (.lst [])) { s3 with heap := h₁, toks := s3.toks + ([] : List (Str × Value)).length } :=
    inv_blk I3 S c1 c2 f3 fo3 hns₁ keep
  have stB : tn 0 h₁ := T.keep 0 s2.heap h₁ st2 fun b hb o e => keep b o (by rw [hh3]; exact Heap.get?_push_of_some _ e)
  have fB : ∀ b ∈ fp, FpOk (blk X NB scope cl s3.heap.objs.size s3 (upd H2 s2.heap.objs.size (.lst [])) fp) [] (upd H2 s2.heap.objs.size (.lst [])) b := fun b hb => by
    refine ⟨(f3 b hb).1, Nat.ne_of_lt (fo3 b hb), fun z => ?_, .inl hb, fun x c e => (f3 b hb).2.2.2.2.1 x c (c1 x c e), fun p hp => absurd (show p ∈ ([] : List (Addr × Obj)) from hp) (by simp)⟩
    rcases List.mem_cons.mp (I3.stkSub b z) with e | e
    · exact (f3 b hb).2.1 e
    · exact (f3 b hb).2.2.1 e
  have loop : codeAny (model X.prog X.w) X.A (.compLoop (.ListComp elt [⟨tg, iter, ifs, 0⟩] scope pos) 0 (.ref it) (.ref s2.heap.objs.size) (compEnvC scope cl s3.heap.objs.size X.env)) (RR (.ref s2.heap.objs.size) s3.heap.objs.size)
      { s3 with heap := h₁, toks := s3.toks + ([] : List (Str × Value)).length } := by
    refine comp_loop (B := blk X NB scope cl s3.heap.objs.size s3 (upd H2 s2.heap.objs.size (.lst [])) fp) rfl hc T (hg _ _ _ _ _) (ht _ _ _ _ _) (he _ _ _ _ _) IB stB fB (hw _ hD) fun σ' H' s' J' q => ?_
    obtain ⟨m, hm, _⟩ := J'.loc
    exact hR _ _ H' s' (I3.fpOk (Nat.le_refl _) J'.free) (I3.unblk J' f3) ⟨m, hm⟩ q
  exact codeAny_compStart_list loop (T.self _ 0 _ _ _ stB loop)
theorem pe_comp (S : BlkScope NB src scope X) (hc : X.calm = true) (hi : PI X tg iter wi) (hg : ∀ cl C s₃ H₃ fp, PG (blk X NB scope cl C s₃ H₃ fp) tg g) (ht : ∀ cl C s₃ H₃ fp, PTs (blk X NB scope cl C s₃ H₃ fp) ifs tt)
    (he : ∀ cl C s₃ H₃ fp, PE (blk X NB scope cl C s₃ H₃ fp) elt te) (hs : ∀ x, foldedSetIterable iter X.env x = pure x := by intro _; rfl) : PE X (.ListComp elt [⟨tg, iter, ifs, 0⟩] scope pos) (tComp src wi g tt te) := by
  intro pins s σ H Q I h
  obtain ⟨cl, hcl, c1, c2⟩ := closure_ex I.ok S
  rw [eval_ListComp]
  refine wpAny_comprehension_free (use := none) (cl := cl) rfl hs hcl S.kind S.names (thn (hi pins s σ H _ I h) fun v s1 h1 => thn h1 fun itv s2 h2 => ?_)
  obtain ⟨it, fp, tn, J, H2, e, I2, T, st2, f2, hw⟩ := h2
  subst e
  refine comp_block (RR := fun acc C => compPost (model X.prog X.w) X.A X.xe none (EP X pins σ Q) acc C) S hc c1 c2 hg ht he I2 T st2 f2 hw fun D C H' s' fC I' hm q => ?_
  obtain ⟨m, hm⟩ := hm
  refine ⟨m, hm, fun h' sb => ⟨.ref D, H', ?_, rfl, q⟩⟩
  obtain ⟨g0, g1, _, g3, g4, g5⟩ := fC
  exact I'.turned (t' := s'.toks) (fun b o hb e => (sb.2 b hb).trans e) g0 g1 g3 g4 g5
/-- name = [..] of one row, the name a plain local -/
theorem ps_setComp {i : Nat} {y : Str} {py spos : Pos} (S : BlkScope NB src scope X) (hc : X.calm = true) (hi : PI X tg iter wi) (hg : ∀ cl C s₃ H₃ fp, PG (blk X NB scope cl C s₃ H₃ fp) tg g) (ht : ∀ cl C s₃ H₃ fp, PTs (blk X NB scope cl C s₃ H₃ fp) ifs tt)
    (he : ∀ cl C s₃ H₃ fp, PE (blk X NB scope cl C s₃ H₃ fp) elt te) (hN : X.N.Nodup) (hix : X.N[i]? = some y) (hy : X.env.scope.names.lookup y = some .local)
    (hsw : swapsWith (.ListComp elt [⟨tg, iter, ifs, 0⟩] scope pos) (some (.Name y py)) spos.line X.env = pure true) (hs : ∀ x, foldedSetIterable iter X.env x = pure x := by intro _; rfl) :
    PS X (.Assign [.Name y py] (.ListComp elt [⟨tg, iter, ifs, 0⟩] scope pos) spos) (tAsg (tComp src wi g tt te) (gName i)) := by
  intro pins s σ H D0 I h
  obtain ⟨cl, hcl, c1, c2⟩ := closure_ex I.ok S
  rw [exec_Assign_Name_used _ _ _ _ hsw]
  refine wpAny_bind (wpAny_standAt (wpAny_bind ?_))
  show wpAny _ X.A (do let _ ← comprehension (.ListComp elt [⟨tg, iter, ifs, 0⟩] scope pos) scope X.env _ (newList []) false (eval iter X.env) (some (assign (.Name y py) X.env))) _ _ s
  refine wpAny_bind (wpAny_mono (wpAny_comprehension_free (use := some (assign (.Name y py) X.env)) (Q := fun _ s' => SP X pins D0 .next s') (cl := cl) rfl hs hcl S.kind S.names
    (thn (hi pins s σ H _ I h) fun v s1 h1 => thn h1 fun itv s2 h2 => ?_)) (fun _ s' hq => wpAny_pure (wpAny_pure hq)) fun _ _ e => e)
  obtain ⟨it, fp, tn, J, H2, e, I2, T, st2, f2, hw⟩ := h2
  subst e
  refine comp_block (RR := fun acc C => compPost (model X.prog X.w) X.A X.xe (some (assign (.Name y py) X.env)) (fun _ s' => SP X pins D0 .next s') acc C) S hc c1 c2 hg ht he I2 T st2 f2 hw fun D C H' s' fC I' hm q => ?_
  obtain ⟨m, hm⟩ := hm
  obtain ⟨g0, g1, _, g3, g4, g5⟩ := fC
  show wpAny _ X.A (assign (.Name y py) X.env (.ref D)) _ _ _
  refine wpAny_assign_Name (store_ok2 I' hN hix (.inl hy) (v := .ref D) rfl (fun s'' I'' sb => ?_) (.inr hy))
  obtain ⟨a, sb, ha⟩ := sb
  have hne : C ≠ a := by
    rcases ha with z | z
    · rw [z]; exact g1
    · exact fun z' => g4 y a z z'.symm
  refine ⟨m, hm.sameBut sb hne, fun h' sb' => ⟨_, H', I''.turned (t' := s''.toks) (fun b o hb e => (sb'.2 b hb).trans e) g0 g1 g3 g4 g5, q⟩⟩
end
end L2

set_option Elab.async false
set_option linter.all false
set_option maxRecDepth 100000
set_option maxHeartbeats 4000000
namespace L2
open PySem PySem.Spec PyProof.Rows

/-! ### an exception under way: B holds all that stands still -/
structure FlyOk (P : Program) (w : World) (outer : List Env) (H : Hp) (s : Shared) (B : Heap) (p : Addr) (C a0 : Value) (H' : Hp) (s' : Shared) : Prop where
  os : s'.os = s.os
  bare : AllBare s'.gens
  hok : HOk P w H' B
  keep : ∀ b o, s.heap.get? b = some o → H b = none → b ∉ frs outer → B.get? b = some o ∧ H' b = none
  frame : ∀ b o, s.heap.get? b = some o → H b = none → b ∈ frs outer → (∃ sl, s'.heap.get? b = some { o with slots := sl }) ∧ H' b = none
  there : ∀ b o, s.heap.get? b = some o → H b ≠ none → ∃ o', B.get? b = some o'
  tups : ∀ b xs, H b = some (.tup xs) → H' b = some (.tup xs)
  frzs : ∀ b o u, H b = some (.frz o u) → H' b = some (.frz o u)
  tbls : ∀ b ps, H b = some (.tbl ps) → ∃ more, H' b = some (.tbl (ps ++ more))
  fl : Heap.FlyingW B outer p C a0 s'.heap
theorem FlyOk.un {P : Program} {w : World} {outer : List Env} {H : Hp} {s : Shared} {B : Heap} {p : Addr} {C a0 : Value} {H' : Hp} {s' : Shared} (F : FlyOk P w outer H s B p C a0 H' s') : Un (frs outer) [] H H' s.heap s'.heap where
  keep := fun b o e n hb _ => F.fl.1 b o (F.keep b o e n hb).1
  slot := fun b o e n hb _ => (F.frame b o e n hb).1
  free := fun b o e n _ => by
    by_cases hb : b ∈ frs outer
    · exact (F.frame b o e n hb).2
    · exact (F.keep b o e n hb).2
  there := fun b o e _ => by
    cases n : H b with
    | none =>
      by_cases hb : b ∈ frs outer
      · obtain ⟨⟨sl, q⟩, _⟩ := F.frame b o e n hb
        exact ⟨_, q⟩
      · exact ⟨o, F.fl.1 b o (F.keep b o e n hb).1⟩
    | some u =>
      obtain ⟨o', q⟩ := F.there b o e (by rw [n]; intro z; cases z)
      exact ⟨o', F.fl.1 _ _ q⟩
  tups := F.tups
  frzs := F.frzs
  tbls := F.tbls
theorem FlyOk.hok' {P : Program} {w : World} {outer : List Env} {H : Hp} {s : Shared} {B : Heap} {p : Addr} {C a0 : Value} {H' : Hp} {s' : Shared} (F : FlyOk P w outer H s B p C a0 H' s') : HOk P w H' s'.heap := F.hok.kept F.fl.1
/-- how an exception lies behind a call -/
def CXf (P : Program) (w : World) : CXT := fun outer H s E e s' => ∃ p C a0 B H', e = .ref p ∧ FlyOk P w outer H s B p C a0 H' s' ∧ E C none H'

section
variable {P : Program} {w : World} {K : PySem.W.Frag} {mg : Str → Option Value} {base : Heap} {N : List Str} {qual : Str} {scope : Scope} {f : Addr} {cd : Value} {A : Around} {outer : List Env} {s : Shared} {H : Hp} {E : XK}
/-- the frames hidden -/
abbrev hid (h : Heap) (l : List Env) : Heap := PySem.W.hideAll h (frs l)
theorem hok_hid {l : List Env} {H1 : Hp} {h : Heap} (ok : HOk P w H1 h) (nf : ∀ b ∈ frs l, H1 b = none) : HOk P w H1 (hid h l) := fun a o e => by
  refine (ok a o e).stay (fun b u hb q => PySem.W.hideAll_get _ q fun z => ?_) (fun _ q => q) fun _ _ q => q
  have n := nf b z
  rcases hb with rfl | hb
  · rw [n] at e; cases e
  · rw [n] at hb; cases hb
/-- raised here: what is wanted of it -/
theorem raise_xe {pins : List (Addr × Obj)} {σ : St} {H1 : Hp} {s1 : Shared} {h' : Heap} {e : Addr} {C : Value} {vs : List Value}
    (I : Inv (cxOf (CXf P w) P w K mg base N qual scope f cd A outer s H E) pins σ H1 s1) (hx : Heap.MadeExcOf s1.heap h' e C vs) (q : E C none H1) :
    (cxOf (CXf P w) P w K mg base N qual scope f cd A outer s H E).xe (.ref e) { s1 with heap := h' } := by
  have stk : frs (envOfC qual scope s.heap.objs.size f cd :: outer) = s.heap.objs.size :: frs outer := rfl
  have hfun := I.stack
  refine wpAny_leaves_madeW (base := hid s1.heap (envOfC qual scope s.heap.objs.size f cd :: outer)) (h := s1.heap) (L := s.heap.objs.size) I.ok.frames rfl (fun b o z => PySem.W.of_hideAll _ z)
    (PySem.W.funFrames_hide hfun fun env he b hb => List.mem_filterMap.mpr ⟨env, he, hb⟩) hx fun h2 t x1 x2 x3 x4 => ?_
  have inB : ∀ b o, s1.heap.get? b = some o → b ∉ frs outer → b < s.heap.objs.size → (hid s1.heap (envOfC qual scope s.heap.objs.size f cd :: outer)).get? b = some o := fun b o z hb hlt =>
    PySem.W.hideAll_get _ z fun m => by
      rw [stk] at m
      rcases List.mem_cons.mp m with z' | z'
      · exact absurd hlt (by rw [z']; exact Nat.lt_irrefl _)
      · exact hb z'
  refine ⟨e, C, .ref t, _, H1, rfl, ⟨I.os, I.bare, hok_hid I.hok I.stkFree, fun b o z n hb => ⟨inB b o (I.base.keep b o z n hb (by intro m; exact absurd (show b ∈ ([] : List Addr) from m) (by simp))) hb (Heap.lt_size z), I.base.free b o z n (by intro m; exact absurd (show b ∈ ([] : List Addr) from m) (by simp))⟩,
    fun b o z n hb => ⟨?_, I.base.free b o z n (by intro m; exact absurd (show b ∈ ([] : List Addr) from m) (by simp))⟩, fun b o z n => ?_, I.base.tups, I.base.frzs, I.base.tbls, x1⟩, q⟩
  · obtain ⟨sl, z1⟩ := I.base.slot b o z n hb (by intro m; exact absurd (show b ∈ ([] : List Addr) from m) (by simp))
    obtain ⟨_, o', ho', nd⟩ := I.ok.funs.mem hb
    have e' : o' = o := Option.some.inj (ho'.symm.trans z)
    subst e'
    obtain ⟨sl2, z2⟩ := x4 b _ (hx.keeps _ _ z1) nd
    exact ⟨sl2, z2⟩
  · have nfr : b ∉ frs (envOfC qual scope s.heap.objs.size f cd :: outer) := fun m => by
      rw [stk] at m
      rcases List.mem_cons.mp m with z' | z'
      · exact absurd (Heap.lt_size z) (by rw [z']; exact Nat.lt_irrefl _)
      · exact n (I.ok.frf b z')
    obtain ⟨o', z1⟩ := I.base.there b o z (by intro m; exact absurd (show b ∈ ([] : List Addr) from m) (by simp))
    exact ⟨o', PySem.W.hideAll_get _ z1 nfr⟩
/-- a callee's exception goes on through this frame -/
theorem passX {E' : XK} (hE : ∀ C d H', E' C d H' → E C d H') : Passes (CXf P w) (cxOf (CXf P w) P w K mg base N qual scope f cd A outer s H E) E' := by
  intro pins σ H1 s1 e s' I h
  obtain ⟨p, C, a0, B, H', rfl, F, q⟩ := h
  have stk : frs (envOfC qual scope s.heap.objs.size f cd :: outer) = s.heap.objs.size :: frs outer := rfl
  have noex : ∀ b : Addr, b ∉ (cxOf (CXf P w) P w K mg base N qual scope f cd A outer s H E).ex := fun b m => absurd (show b ∈ ([] : List Addr) from m) (by simp)
  have nst : ∀ b o, s.heap.get? b = some o → b ∉ frs outer → b ∉ frs (cxOf (CXf P w) P w K mg base N qual scope f cd A outer s H E).stack := fun b o z hb m => by
    have m' : b ∈ s.heap.objs.size :: frs outer := m
    rcases List.mem_cons.mp m' with z' | z'
    · exact absurd (Heap.lt_size z) (by rw [z']; exact Nat.lt_irrefl _)
    · exact hb z'
  show wpAny _ _ (leaving (envOfC qual scope s.heap.objs.size f cd) (.ref p)) _ _ s'
  refine wpAny_leaves_onW (outer := outer) (L := s.heap.objs.size) I.ok.frames rfl F.fl fun h2 x1 x2 => ?_
  refine ⟨p, C, a0, B, H', rfl, ⟨F.os.trans I.os, F.bare, F.hok, fun b o z n hb => ?_, fun b o z n hb => ?_, fun b o z n => ?_, fun b xs z => F.tups b xs (I.base.tups b xs z), fun b o u z => F.frzs b o u (I.base.frzs b o u z), fun b ps z => ?_, x1⟩, hE _ _ _ q⟩
  · exact F.keep b o (I.base.keep b o z n hb (noex b)) (I.base.free b o z n (noex b)) (nst b o z hb)
  · obtain ⟨sl, z1⟩ := I.base.slot b o z n hb (noex b)
    have hb' : b ∈ frs (cxOf (CXf P w) P w K mg base N qual scope f cd A outer s H E).stack := List.mem_cons_of_mem _ hb
    obtain ⟨⟨sl2, z2⟩, n2⟩ := F.frame b _ z1 (I.base.free b o z n (noex b)) hb'
    obtain ⟨_, o', ho', nd⟩ := I.ok.funs.mem hb
    have e' : o' = o := Option.some.inj (ho'.symm.trans z)
    subst e'
    obtain ⟨sl3, z3⟩ := x2 b _ z2 nd
    exact ⟨⟨sl3, z3⟩, n2⟩
  · obtain ⟨o', z1⟩ := I.base.there b o z (noex b)
    have hno : b ∉ frs outer := fun m => n (I.ok.frf b m)
    cases n1 : H1 b with
    | none => exact ⟨o', (F.keep b o' z1 n1 (nst b o z hno)).1⟩
    | some u => exact F.there b o' z1 (by rw [n1]; intro z'; cases z')
  · obtain ⟨m1, z1⟩ := I.base.tbls b ps z
    obtain ⟨m2, z2⟩ := F.tbls b _ z1
    exact ⟨m1 ++ m2, by rw [z2, Array.append_assoc]⟩
/-- exceptions noted on their way through a loop -/
theorem ownX : PassesOwn (model P w) (cxOf (CXf P w) P w K mg base N qual scope f cd A outer s H E).A (cxOf (CXf P w) P w K mg base N qual scope f cd A outer s H E).env (cxOf (CXf P w) P w K mg base N qual scope f cd A outer s H E).xe := by
  intro e s' h
  exact PassesOwn.leaving (M := model P w) (A := A.deeper (envOfC qual scope s.heap.objs.size f cd)) (env := envOfC qual scope s.heap.objs.size f cd) (Q₁ := fun e s'' => CXf P w outer H s E e s'') (E₁ := fun e' s'' => CXf P w outer H s E e' s'') e s' h
end
/-- no exception: a callee whose promise wants none -/
theorem passN {P : Program} {w : World} {X : Cx} : Passes (CXf P w) X E0 := fun _ _ _ _ _ _ _ h => by
  obtain ⟨_, _, _, _, _, _, _, q⟩ := h
  exact q.elim
end L2

set_option Elab.async false
set_option linter.all false
set_option maxRecDepth 100000
set_option maxHeartbeats 4000000
namespace L2
open PySem PySem.Spec PyProof.Rows PySem.W

abbrev bmV : List Value := [.type "ValueError", .type "Exception", .type "BaseException", .type "object"]
/-- an own exception class under ValueError, as the top has made it -/
structure ECls (K : PySem.W.Frag) (C : Addr) : Prop where
  ex : PySem.W.excIn K C bmV "ValueError.__new__" = true
  kp : PySem.W.keepIn K (.ref C) = true
  ga : PySem.W.findIn K (.ref C) "__getattribute__" = some (some (.builtin "BaseException.__getattribute__"))
  gt : PySem.W.findIn K (.ref C) "__getattr__" = some none
  cl : PySem.W.findIn K (.ref C) "__class__" = some (some (.builtin "object.__class__"))
  mo : PySem.W.mroIn K C (.type "object") = some true
  mb : PySem.W.mroIn K C (.type "BaseException") = some true
  ty : (PySem.W.clsIn K C).isSome = true
theorem ecls_obj {K : PySem.W.Frag} {h : Heap} {C : Addr} {bmB : List Value} {newId : String} (X : K.In h) (q : PySem.W.excIn K C bmB newId = true) :
    ∃ bm N nm qn bs hdct sn sub ab col dd k0 k1 k2 k3 k5 mN, h.get? C = some (excClassObj nm qn C N bs bm hdct sn sub ab col dd k0 k1 k2 k3 k5 newId) ∧ h.Ns N mN ∧ mN "__init__" = none ∧ OwnTail h bmB bm := by
  unfold PySem.W.excIn at q
  split at q
  · rename_i dd cd sl ho
    split at q
    · rename_i C' bm k0 k1 k2 k3 n k5 hm hs
      simp only [Bool.and_eq_true, beq_iff_eq, Bool.not_eq_true'] at q
      obtain ⟨⟨⟨⟨⟨rfl, rfl⟩, hdel⟩, ht⟩, hok⟩, hni⟩ := q
      obtain ⟨nm, bs, mro, ns, qn, hd, sn, sub, ab, col, del⟩ := cd
      dsimp only at hm hdel hok hni
      subst hm hdel
      have hsl : sl = #[k0, k1, k2, k3, some (.builtin n), k5] := by
        obtain ⟨l⟩ := sl
        simp only at hs
        rw [hs]
      subst hsl
      exact ⟨bm, ns, nm, qn, bs, hd, sn, sub, ab, col, dd, k0, k1, k2, k3, k5, _, X _ _ ho, .of_isNs (isNs_of_in X hok), nsMap_none_of_in X hok hni, tail_of_in X ht⟩
    · cases q
  · cases q
/-- an exception of the class at C stands at p -/
def IsX (p : Addr) (C : Value) (h : Heap) : Prop := ∃ o, h.get? p = some o ∧ o.cls = C
abbrev excO (p : Addr) (C : Value) : HO := .ext (IsX p C)
theorem IsX.ok {P : Program} {w : World} {H : Hp} {h : Heap} {p : Addr} {C : Value} (x : IsX p C h) : ObjOk P w H h p (excO p C) :=
  ⟨x, (let ⟨o, e, _⟩ := x; ⟨o, e⟩), fun h1 h2 ⟨o, e, r⟩ k => ⟨o, k o e, r⟩⟩

theorem ObjOk.get {P : Program} {w : World} {H : Hp} {h : Heap} {a : Addr} {o : HO} (x : ObjOk P w H h a o) : ∃ u, h.get? a = some u := by
  cases o with
  | lst xs => obtain ⟨_, _, _, _, e⟩ := x; exact ⟨_, e⟩
  | tup xs => obtain ⟨_, _, _, ob, e, _⟩ := x; exact ⟨_, e⟩
  | dK kvs => obtain ⟨_, _, _, _, o, _, _, e, _⟩ := x; exact ⟨_, e⟩
  | dT kvs => obtain ⟨_, _, _, _, o, _, _, e, _⟩ := x; exact ⟨_, e⟩
  | set S n => obtain ⟨o, _, _, _, e, _⟩ := x; exact ⟨_, e⟩
  | ins C dx fs => obtain ⟨_, _, _, e, _⟩ := x; exact ⟨_, e⟩
  | own y => exact x
  | xd fs => obtain ⟨_, ⟨_, _, _, e, _⟩, _⟩ := x; exact ⟨_, e⟩
  | rng lo hi => obtain ⟨_, _, _, e⟩ := x; exact ⟨_, e⟩
  | frz ob u => obtain ⟨e, _⟩ := x; exact ⟨_, e⟩
  | tbl ps => exact ⟨_, (show h.get? a = some _ from x)⟩
  | met f y => exact ⟨_, (show h.get? a = some _ from x)⟩
  | ext φ => exact x.2.1
theorem HOk.freshN {P : Program} {w : World} {H : Hp} {h : Heap} {a : Addr} (x : HOk P w H h) (e : h.get? a = none) : H a = none := by
  cases q : H a with
  | none => rfl
  | some u => obtain ⟨o, z⟩ := (x a u q).get; rw [e] at z; cases z
theorem Inv.laidN {X : Cx} {pins : List (Addr × Obj)} {σ : St} {H : Hp} {s : Shared} {h' : Heap} {a : Addr} {o : HO} {t' : Nat} (I : Inv X pins σ H s) (k : ∀ b u, s.heap.get? b = some u → h'.get? b = some u) (hp : s.heap.get? a = none) (new : ObjOk X.prog X.w (upd H a o) h' a o) :
    Inv X pins σ (upd H a o) { s with heap := h', toks := t' } := by
  have hn := I.hok.freshN hp
  have ne : ∀ b u, s.heap.get? b = some u → b ≠ a := fun b u e z => by rw [z, hp] at e; cases e
  refine I.un ⟨fun b u e _ _ _ => k b u e, fun b u e _ _ _ => ⟨u.slots, k b u e⟩, fun b u e n _ => by rw [upd_ne (ne b u e)]; exact n, fun b u e _ => ⟨u, k b u e⟩, fun b xs e => by rw [upd_ne (ne_of_none e hn)]; exact e, fun b u v e => by rw [upd_ne (ne_of_none e hn)]; exact e, fun b ps e => ⟨#[], by rw [upd_ne (ne_of_none e hn), e]; simp⟩⟩ fun b u e => ?_
  by_cases hb : b = a
  · subst hb; rw [upd_same] at e; cases e; exact new
  · rw [upd_ne hb] at e
    exact (I.hok b u e).stay (fun c v _ q => k c v q) (fun c q => by rw [upd_ne (ne_of_none q hn)]; exact q) fun c xs q => by rw [upd_ne (ne_of_none q hn)]; exact q
section
variable {prog : Program} {w : World} {A : Around} {E : Value → Shared → Prop} {s : Shared} {K : PySem.W.Frag} {x C : Addr} {ox : Obj}
theorem type_at {M : Model} {h : Heap} (hx : h.get? x = some ox) (hc : ox.cls = .ref C) : PySem.W.Looks M h (typeOf (.ref x)) (.ref C) := hc ▸ (PySem.W.Looks.ld hx).andThen .now
open Builtin Builtin.ObjectAttr Builtin.Getset_descriptor in
theorem class_getX {tp : Value} {R : Result → Shared → Prop} (X : K.In s.heap) (hx : s.heap.get? x = some ox) (hc : ox.cls = .ref C) (hm : PySem.W.mroIn K C (.type "object") = some true)
    (h : R (.ok (.ret (.ref C))) s) : codeAny (model prog w) A (.call (.builtin "getset_descriptor.__get__") ⟨[.builtin "object.__class__", .ref x, tp], []⟩) R s := by
  obtain ⟨hh, g, dr, t, os⟩ := s
  have L0 := type_at (M := model prog w) hx hc
  have L1 := looks_mroIn (M := model prog w) X hm
  refine codeAny_call_builtin KF.slot_gs.plain KF.entry_gs (KF.slot_gs.check _ _ _ _ _ _ _ _ KF.type_class (KF.args_gs _ _ _) ?_)
  unfold Builtin.«getset_descriptor.__get__» descrGet
  rw [dga_obj]
  refine wpAny_bind (wpAny_pure ?_)
  unfold descrGetter descrCheckInstance descrNameAndClass isInstance
  simp only [KF.owner_class]
  repeat lk
  refine ⟨Code.quiet_builtin _ (by decide +kernel), codeAny_builtin KF.entry_class ?_⟩
  unfold Builtin.«object.__class__» shownTypeOf
  repeat lk
  exact h
theorem exc_matches {M : Model} {D : Addr} {b : Bool} {Q : Bool → Shared → Prop} {h : Heap} {g d t os} (X : K.In h) (TD : ECls K D) (hx : h.get? x = some ox) (hc : ox.cls = .ref C) (sub : PySem.W.subIn K (.ref C) (.ref D) = some b) (hq : Q b ⟨h, g, d, t, os⟩) :
    wpAny M A (excMatches (.ref x) (.ref D)) Q E ⟨h, g, d, t, os⟩ := by
  obtain ⟨bm, N, nm, qn, bs, hdct, sn, sub', ab, col, dd, k0, k1, k2, k3, k5, mN, hC, hN, hni, TL⟩ := ecls_obj X TD.ex
  have hcB : (Value.ref D :: bm).contains (.type "BaseException") = true := by rw [List.contains_cons, TL.hasType PySem.F.excBase_ValueError.hasBase, Bool.or_true]
  have L1 := looks_subIn (M := M) X sub
  have f := tc_notTuple
  unfold excMatches
  repeat (first | (with_reducible refine wpAny_loadPart_at hx ?_; rw [hc]) | with_reducible refine wpAny_loadPart_at hC ?_ | with_reducible refine L1.at ?_ | (with_reducible refine wpAny_isSubtype_exc hC ?_; rw [hcB]) | wp_step)
  cases b
  · repeat (first | exact hq | wp_step)
  · repeat (first | exact hq | wp_step)
theorem exc_entry {tk : Tok} {Q : Fin → Shared → Prop} {h : Heap} {g d t os} (T : ECls K C) (X : K.In h) (hx : h.get? x = some ox) (hc : ox.cls = .ref C) (hq : Q (.done (.ret (.ref C))) ⟨h, g, d, t, os⟩) :
    wpAny (model prog w) A (Builtin.«object.__getattribute__» ⟨[.ref x, .str "__class__" tk], []⟩) Q E ⟨h, g, d, t, os⟩ := by
  have f5 := F.typeOf_bexc_args
  have hT5 : (⟨h, g, d, t, os⟩ : Shared).TypeIs (.builtin "object.__class__") "getset_descriptor" := PySem.F.typeOf_object_class
  have f5' := PySem.F.typeOf_object_class
  have f6 := F.slot_gs_get.lookup
  have f7 := F.slot_gs_set.lookup
  have L1 := looks_findIn (M := model prog w) X T.cl
  repeat (any_goals (first | assumption | (with_reducible refine wpAny_loadPart_at hx ?_; rw [hc]) | with_reducible refine L1.at ?_ | wp_step))
  refine class_getX (s := ⟨h, g, d, t, os⟩) X hx hc T.mo ?_
  repeat (any_goals (first | assumption | wp_step))
theorem exc_check {M : Model} {nameV : Value} {Q : Unit → Shared → Prop} {h : Heap} {g d t os} (T : ECls K C) (X : K.In h) (hx : h.get? x = some ox) (hc : ox.cls = .ref C) (hq : Q () ⟨h, g, d, t, os⟩) :
    wpAny M A (checkBuiltinCall "BaseException.__getattribute__" ⟨[.ref x, nameV], []⟩) Q E ⟨h, g, d, t, os⟩ := by
  have hk : builtinKind "BaseException.__getattribute__" = some .slot := by decide +kernel
  have hsplit : splitId "BaseException.__getattribute__" = some ("BaseException", "__getattribute__") := by decide +kernel
  have ha := F.args_bexc_ga (.ref x) nameV
  have L1 := looks_mroIn (M := M) X T.mb
  simp only [checkBuiltinCall, hk, hsplit]
  refine wpAny_bind ?_
  · unfold isInstance
    repeat (first | (with_reducible refine wpAny_loadPart_at hx ?_; rw [hc]) | with_reducible refine L1.at ?_ | wp_step)
    exact hq
theorem exc_by {tk : Tok} {fill expr : Bool} {Q : Value → Shared → Prop} {h : Heap} {g d t os} (T : ECls K C) (X : K.In h) (hx : h.get? x = some ox) (hc : ox.cls = .ref C) (hq : Q (.ref C) ⟨h, g, d, t, os⟩) :
    wpAny (model prog w) A (getAttrBy (.ref x) (.str "__class__" tk) fill expr) Q E ⟨h, g, d, t, os⟩ := by
  have f3 := F.attr_ValueError.ga.bind (.ref x)
  have hx0 : (expr && onTheHeap (Value.builtin "BaseException.__getattribute__")) = false := by cases expr <;> rfl
  have hx2 : (Value.builtin "BaseException.__getattribute__" == Value.builtin "object.__getattribute__") = false := by decide +kernel
  have hx1 : (onTheHeap (Value.ref C) && Value.builtin "BaseException.__getattribute__" == Value.builtin "object.__getattribute__") = false := by rw [hx2]; rfl
  have L1 := looks_findIn (M := model prog w) X T.ga
  have L2 := looks_findIn (M := model prog w) X T.gt
  repeat (any_goals (first | assumption | (with_reducible refine wpAny_loadPart_at hx ?_; rw [hc]) | with_reducible refine L1.at ?_ | with_reducible refine L2.at ?_ | wp_step))
  refine codeAny_call_builtin F.attr_ValueError.ga.plain F.entry_bexc_ga (exc_check T X hx hc (exc_entry T X hx hc ?_))
  repeat (any_goals (first | assumption | wp_step))
theorem exc_attr {Q : Option Value → Shared → Prop} {h : Heap} {g d t os} (T : ECls K C) (X : K.In h) (hx : h.get? x = some ox) (hc : ox.cls = .ref C) (hq : Q (some (.ref C)) ⟨h, g, d, t + 1, os⟩) :
    wpAny (model prog w) A (getAttr? (.ref x) "__class__") Q E ⟨h, g, d, t, os⟩ := by
  unfold getAttr?
  repeat (any_goals (first | assumption | with_reducible apply exc_by T X hx hc | wp_step))
theorem kitx_exc (T : ECls K C) : PySem.W.KitX K (.ref x) (.ref C) (IsX x (.ref C)) where
  ty := fun _ _ _ ⟨o, e, c⟩ => type_at e c
  it := fun _ _ X _ => by
    obtain ⟨cdD, hcD⟩ := Option.isSome_iff_exists.mp T.ty
    unfold clsIn at hcD
    split at hcD
    · rename_i c' d' cd' sl' ho
      intro A' Q' E' s' k q
      unfold isType loadHead
      exact wpAny_bind (wpAny_loadPart (k _ _ (X _ _ ho)) (wpAny_pure q))
    · cases hcD
  ne := fun h tp dd its n sl X htp => by
    obtain ⟨cdD, hcD⟩ := Option.isSome_iff_exists.mp T.ty
    refine Bool.eq_false_iff.mpr fun q => ?_
    have e : C = tp := Value.ref.inj (beq_iff_eq.mp q)
    subst e
    unfold clsIn at hcD
    split at hcD
    · rename_i c' d' cd' sl' ho
      have z := (X _ _ ho).symm.trans htp
      cases z
    · cases hcD
  ca := fun {_ _ _ _ _ s} X ⟨o, e, c⟩ k => by
    obtain ⟨h, g, d, t, os⟩ := s
    exact exc_attr T X e c k
end

/-! ### isinstance of one class -/
section
variable {X : Cx}
/-- the classes' answers for a value: as the layer's, or an exception's -/
inductive TyX (K : PySem.W.Frag) (H : Hp) : V → Value → Prop where
  | of {v : V} {t : Value} (h : TyOf K H v t) : TyX K H v t
  | exc {p C : Addr} (T : ECls K C) (e : H p = some (excO p (.ref C))) : TyX K H (.ref p) (.ref C)
def rIsi (K : PySem.W.Frag) : List V → Hp → VK → Prop := fun xs H Q => ∃ x c cv t b, xs = [x, c] ∧ (c = .ty cv ∧ PySem.W.kitOne K t (.type cv) = some b) ∧ TyX K H x t ∧ Q (.bl b) H
theorem call_isi : CallR X (.builtin "isinstance") (rIsi X.K) := by
  intro pins s σ H xs us Q I r h
  obtain ⟨x, c, cv, t, b, rfl, ⟨rfl, e⟩, ty, q⟩ := h
  obtain ⟨u1, u2, rfl, r1, r2⟩ := r.two
  obtain rfl : u2 = Value.type cv := r2
  cases ty with
  | of ty => exact isinst_ok I r1 ty e fun tk => ⟨.bl b, H, I.tok tk, rfl, q⟩
  | @exc p C T ea =>
    obtain rfl : u1 = Value.ref p := r1
    have p1 : IsX p (.ref C) s.heap := (I.hok p _ ea).1
    exact PySem.W.kia_one (kitx_exc T) I.kIn p1 e (fun z => nomatch z) fun tk => ⟨.bl b, H, I.tok tk, rfl, q⟩
/-- .. of an own class -/
def rIsiC (K : PySem.W.Frag) : List V → Hp → VK → Prop := fun xs H Q => ∃ x c t b, xs = [x, .ref c] ∧ PySem.W.kitOne K t (.ref c) = some b ∧ TyX K H x t ∧ Q (.bl b) H
theorem call_isiC : CallR X (.builtin "isinstance") (rIsiC X.K) := by
  intro pins s σ H xs us Q I r h
  obtain ⟨x, c, t, b, rfl, e, ty, q⟩ := h
  obtain ⟨u1, u2, rfl, r1, r2⟩ := r.two
  obtain rfl : u2 = Value.ref c := r2
  cases ty with
  | of ty => exact isinst_ok I r1 ty e fun tk => ⟨.bl b, H, I.tok tk, rfl, q⟩
  | @exc p C T ea =>
    obtain rfl : u1 = Value.ref p := r1
    have p1 : IsX p (.ref C) s.heap := (I.hok p _ ea).1
    exact PySem.W.kia_one (kitx_exc T) I.kIn p1 e (fun z => nomatch z) fun tk => ⟨.bl b, H, I.tok tk, rfl, q⟩
end

/-! ### an exception is made -/
section
variable {X : Cx} {x : Str} {C : Addr} {np cpos pos : Pos} {e : Expr} {es : List Expr} {t : TA}
theorem made_isX {h h' : Heap} {p : Addr} {C : Value} {vs : List Value} (m : Heap.MadeExcOf h h' p C vs) : IsX p C h' := by
  obtain ⟨t, e, _⟩ := m.there
  exact ⟨_, e, rfl⟩
/-- C(..) as a value -/
def tXMake (C : Addr) (t : TA) : TE := fun σ H Q => t σ H fun vs H1 => vs.length ≤ sizeLine ∧ ∀ p, H1 p = none → Q (.ref p) (upd H1 p (excO p (.ref C)))
theorem run_xmake {pins : List (Addr × Obj)} {σ : St} {H : Hp} {s : Shared} {us : List Value} {Q : VK} (T : ECls X.K C) (I : Inv X pins σ H s) (hl : us.length ≤ sizeLine) (h : ∀ p, H p = none → Q (.ref p) (upd H p (excO p (.ref C)))) :
    wpAny (model X.prog X.w) X.A (call (.ref C) us) (EP X pins σ Q) X.xe s := by
  obtain ⟨bm, N, nm, qn, bs, hdct, sn, sub, ab, col, dd, k0, k1, k2, k3, k5, mN, hC, hN, hni, TL⟩ := ecls_obj I.kIn T.ex
  obtain ⟨hh, g, d, tk, os⟩ := s
  refine wpAny_call_exc_subT (hrest := hl) PySem.F.excBase_ValueError TL hC hN hni fun h' p m => ?_
  have hn : H p = none := I.hok.freshN m.new
  exact ⟨.ref p, upd H p (excO p (.ref C)), I.laidN (t' := tk) (fun b u e => m.keeps b u e) m.new (made_isX m).ok, rfl, h p hn⟩
/-- C(e, ..), C() -/
theorem pe_xmake (T : ECls X.K C) (hg : Gl X x) (hm : X.mg x = some (.ref C)) (ha : PA X (e :: es) t) (hdb : (x == ("__debug__" : Str)) = false := by decide) (he : starEach (e :: es) X.env = (false, eval e X.env) :: starEach es X.env := by rfl) (hpl : (backTo pos (starEach es X.env)).any (·.1) = false := by rfl) :
    PE X (.Call (.Name x np) (e :: es) [] pos) (tXMake C t) := by
  intro pins s σ H Q I h
  refine wpAny_Call_Name_kw (ld_glob I hg hm ?_ hdb)
  refine PySem.W.callWith_K (h₀ := X.base) I.ok.mod.kin T.kp (thn (ha pos pins s σ H _ I h) fun us s1 ⟨vs, H1, I1, r, hl, q⟩ => ⟨I1.kIn, ?_⟩) he hpl
  exact run_xmake (us := us) T I1 (by rw [← r.length]; exact hl) q
theorem pe_xmake0 (T : ECls X.K C) (hg : Gl X x) (hm : X.mg x = some (.ref C)) (hdb : (x == ("__debug__" : Str)) = false := by decide) : PE X (.Call (.Name x np) [] [] pos) (tXMake C tNil) := by
  intro pins s σ H Q I h
  refine wpAny_Call_Name_kw (ld_glob I hg hm ?_ hdb)
  exact PySem.W.callWith_K0 I.kIn T.kp (run_xmake (us := []) T I (Nat.zero_le _) h.2)
/-- raise C(e, ..): q is what is wanted of it -/
def tRaise (q : Hp → Prop) (t : TA) : TS := fun _ σ H => t σ H fun vs H1 => vs.length ≤ sizeLine ∧ q H1
theorem ps_raise {q : Hp → Prop} (hc : X.calm = true) (T : ECls X.K C) (hg : Gl X x) (hm : X.mg x = some (.ref C)) (ha : PA X (e :: es) t)
    (hxe : ∀ (pins : List (Addr × Obj)) (σ : St) (H1 : Hp) (s1 : Shared) (h' : Heap) (p : Addr) (vs : List Value), Inv X pins σ H1 s1 → Heap.MadeExcOf s1.heap h' p (.ref C) vs → q H1 → X.xe (.ref p) { s1 with heap := h' })
    (hdb : (x == ("__debug__" : Str)) = false := by decide) (he : starEach (e :: es) X.env = (false, eval e X.env) :: starEach es X.env := by rfl) (hpl : (backTo cpos (starEach (e :: es) X.env)).any (·.1) = false := by rfl) :
    PS X (.Raise (some (.Call (.Name x np) (e :: es) [] cpos)) none pos) (tRaise q t) := by
  intro pins s σ H D I h
  obtain ⟨bm, N, nm, qn, bs, hdct, sn, sub, ab, col, dd, k0, k1, k2, k3, k5, mN, hC, hN, hni, TL⟩ := ecls_obj I.ok.mod.kin T.ex
  refine wpAny_Raise_call_subT (C := C) (nm := nm) (q := qn) (N := N) (bs := bs) (bm := bm) (hdct := hdct) (sn := sn) (sub := sub) (ab := ab) (col := col) (dd := dd) (k0 := k0) (k1 := k1) (k2 := k2) (k3 := k3) (k5 := k5)
    PySem.F.excBase_ValueError (mN := mN) (TL.hasType PySem.F.excBase_ValueError.hasBase) (I.ok.hd hc) hpl hni (ld_glob I hg hm ⟨rfl, ?_⟩ hdb)
  have h1 := ha cpos pins s σ H _ I h
  rw [he] at h1 ⊢
  exact Calls.evalArgs_plain (wpAny_mono h1 (fun us s2 ⟨vs, H2, I2, r, hl, z⟩ => ⟨rfl, (by show us.length ≤ sizeLine; rw [← r.length]; exact hl), I2.bk _ _ hC, hN.keeps I2.bk, TL.keeps I2.bk, fun h' p m => hxe pins σ H2 s2 h' p us I2 m z⟩) fun _ _ y => y)
end
end L2

set_option Elab.async false
set_option linter.all false
set_option maxRecDepth 100000
set_option maxHeartbeats 4000000
namespace L2
open PySem PySem.Spec PyProof.Rows

/-! ### calls whose exceptions are wanted by the state -/
def PassesS (CX : CXT) (X : Cx) (E : St → XK) : Prop := ∀ (pins : List (Addr × Obj)) (σ : St) (H : Hp) (s : Shared) (e : Value) (s' : Shared), Inv X pins σ H s → CX X.stack H s (E σ) e s' → X.xe e s'
def tCallS (sp : Sp) (dvs : List V) (E : St → XK) (t : TA) : TE := fun σ H Q => t σ H fun vs H1 => sp (vs ++ dvs) H1 Q (E σ)
def tMethS (C : Addr) (m : Str) (sp : Sp) (dvs : List V) (E : St → XK) (ta : TE) (t : TA) : TE := fun σ H Q => ta σ H fun x H1 => ∃ a dx fs, x = .ref a ∧ H1 a = some (.ins C dx fs) ∧ fs.lookup m = none ∧
  t σ H1 fun vs H2 => sp (x :: (vs ++ dvs)) H2 Q (E σ)
def tMakeS (C : Addr) (sp : Sp) (dvs : List V) (E : St → XK) (t : TA) : TE := fun σ H Q => t σ H fun vs H1 => ∀ x dx, H1 x = none → H1 dx = none → dx ≠ x →
  sp (.ref x :: (vs ++ dvs)) (upd (upd H1 dx (.own x)) x (.ins C dx [])) (fun v H2 => v = .non ∧ Q (.ref x) H2) (E σ)
section
variable {X : Cx} {CX : CXT} {k : Nat} {f C : Addr} {fd : FuncData} {ps : List Str} {sp : Sp} {dvs : List V} {ds : List Value} {E : St → XK} {x m : Str} {p pos apos : Pos} {e o : Expr} {es : List Expr} {ta : TE} {t : TA}
theorem run_fnS {pins : List (Addr × Obj)} {σ : St} {H : Hp} {s : Shared} {Q : VK} {us : List Value} {vs : List V} (F : FnOk X.prog X.w X.K X.mg X.base CX k f fd ps sp) (hr : Room k X.A) (hb : Binds X.K fd ps ds) (hd : Vals dvs ds) (hx : PassesS CX X E)
    (I : Inv X pins σ H s) (r : Vals vs us) (h : sp (vs ++ dvs) H Q (E σ)) : wpAny (model X.prog X.w) X.A (call (.ref f) us) (EP X pins σ Q) X.xe s := by
  have r2 : Vals (vs ++ dvs) (us ++ ds) := r.append hd
  have hl : (us ++ ds).length = ps.length := by rw [← r2.length]; exact F.len _ _ _ _ h
  refine wpAny_call (codeAny_mono (F.run X.A X.stack s H ⟨us, []⟩ (us ++ ds) (vs ++ dvs) Q (E σ) hr I.env0 (hb s us I.kIn hl) r2 h) fun r s' hq => ?_)
  cases r with
  | error e => exact hx pins σ H s e s' I hq
  | ok fl =>
    cases fl with
    | ret u => exact I.after hq
    | next => exact False.elim hq
    | brk => exact False.elim hq
    | cont => exact False.elim hq
theorem pe_callS (F : FnOk X.prog X.w X.K X.mg X.base CX k f fd ps sp) (hr : Room k X.A) (hg : Gl X x) (hm : X.mg x = some (.ref f)) (hk : PySem.W.keepIn X.K (.ref f) = true) (hb : Binds X.K fd ps ds) (hd : Vals dvs ds) (hx : PassesS CX X E)
    (ha : PA X (e :: es) t) (hdb : (x == ("__debug__" : Str)) = false := by decide) (he : starEach (e :: es) X.env = (false, eval e X.env) :: starEach es X.env := by rfl) (hpl : (backTo pos (starEach es X.env)).any (·.1) = false := by rfl) :
    PE X (.Call (.Name x p) (e :: es) [] pos) (tCallS sp dvs E t) := by
  intro pins s σ H Q I h
  refine wpAny_Call_Name_kw (ld_glob I hg hm ?_ hdb)
  refine PySem.W.callWith_K (h₀ := X.base) I.ok.mod.kin hk (thn (ha pos pins s σ H _ I h) fun us s1 ⟨vs, H1, I1, r, q⟩ => ⟨I1.kIn, ?_⟩) he hpl
  exact run_fnS F hr hb hd hx I1 r q
end
theorem pe_never {X : Cx} {e : Expr} : PE X e fun _ _ _ => False := fun _ _ _ _ _ _ h => h.elim
theorem pa_never {X : Cx} {es : List Expr} : PA X es fun _ _ _ => False := fun _ _ _ _ _ _ _ h => h.elim
theorem pt_never {X : Cx} {e : Expr} : PT X e fun _ _ _ => False := fun _ _ _ _ _ _ h => h.elim

/-! ### calls within an except suite -/
structure RoomW (k : Nat) (A : Around) : Prop where
  dp : A.depth + 3 * k + 5 < recursionLimit
  un : A.units + 16 * k + 200 < cLine
theorem Room.w {k : Nat} {A : Around} (r : Room k A) : RoomW k A := ⟨r.dp, r.un⟩
theorem RoomW.mono {j k : Nat} {A : Around} (r : RoomW k A) (h : j ≤ k) : RoomW j A := ⟨by have := r.dp; omega, by have := r.un; omega⟩
theorem RoomW.deeper {k : Nat} {A : Around} (r : RoomW (k + 1) A) (env : Env) : RoomW k (A.deeper env) :=
  ⟨by have := r.dp; show A.depth + 1 + 3 * k + 5 < _; omega, by have := r.un; show A.units + 3 + 16 * k + 200 < _; omega⟩
theorem RoomW.depth {k : Nat} {A : Around} (r : RoomW k A) : A.depth < recursionLimit := by have := r.dp; omega
structure FnOkW (P : Program) (w : World) (K : PySem.W.Frag) (mg : Str → Option Value) (base : Heap) (CX : CXT) (k : Nat) (f : Addr) (fd : FuncData) (ps : List Str) (sp : Sp) : Prop where
  len : ∀ vs H Q E, sp vs H Q E → vs.length = ps.length
  run : ∀ (A : Around) (outer : List Env) (s : Shared) (H : Hp) (args : Args) (us : List Value) (vs : List V) (Q : VK) (E : XK), RoomW k A → Env0 P w K mg base A outer s H → BindsTo s fd args (ps.zip us) → Vals vs us → sp vs H Q E →
    codeAny (model P w) A (.call (.ref f) args) (CR CX outer P w H s Q E) s
theorem FnOkW.ok {P : Program} {w : World} {K : PySem.W.Frag} {mg : Str → Option Value} {base : Heap} {CX : CXT} {k : Nat} {f : Addr} {fd : FuncData} {ps : List Str} {sp : Sp} (F : FnOkW P w K mg base CX k f fd ps sp) : FnOk P w K mg base CX k f fd ps sp :=
  ⟨F.len, fun A outer s H args us vs Q E hr => F.run A outer s H args us vs Q E hr.w⟩
def cxOfW (CX : CXT) (P : Program) (w : World) (K : PySem.W.Frag) (mg : Str → Option Value) (base : Heap) (N : List Str) (qual : Str) (scope : Scope) (f : Addr) (cd : Value) (A : Around) (outer : List Env) (s : Shared) (H : Hp) (E : XK) : Cx :=
  { cxOf CX P w K mg base N qual scope f cd A outer s H E with calm := false }
theorem inv_startW {CX : CXT} {P : Program} {w : World} {K : PySem.W.Frag} {mg : Str → Option Value} {base : Heap} {N ps : List Str} {qual : Str} {scope : Scope} {f : Addr} {cd : Value} {A : Around} {outer : List Env} {s s1 : Shared} {H : Hp} {E : XK} {us : List Value} {vs : List V}
    (S : FnScope N ps scope) (e0 : Env0 P w K mg base A outer s H) (hl : vs.length = ps.length) (r : Vals vs us)
    (x : InCallC s s.heap.objs.size (bindL (envOfC qual scope s.heap.objs.size f cd).kindOf (ps.zip us) fun _ => none) (cellsFrom (s.heap.objs.size + 1) scope.names []) (bindC (envOfC qual scope s.heap.objs.size f cd).kindOf (ps.zip us) fun _ => none) s1) :
    Inv (cxOfW CX P w K mg base N qual scope f cd A outer s H E) [] (start N vs) H s1 := by
  have hpl : ps.length ≤ N.length := by have := congrArg List.length S.pre; rw [List.length_take] at this; omega
  obtain ⟨h1, tk, rfl, hk⟩ := x.done
  have noA : ∀ b : Addr, b ∉ (cxOfW CX P w K mg base N qual scope f cd A outer s H E).ex := fun b z => absurd (show b ∈ ([] : List Addr) from z) (by simp)
  refine ⟨⟨e0.mod, S.kind, rfl, rfl, Nat.le_refl _, fun y z c h1 h2 => ?_, fun y hy => ?_, fun y c _ h => ?_, fun z => absurd (show false = true from z) (by decide), Around.frames_deeper e0.frames, .inr ⟨rfl, rfl⟩, fun b z => absurd z (noA b), e0.bs, e0.bsz, fun b _ _ => noA b, fun b z => absurd z (noA b), e0.funs, e0.frf⟩,
    rfl, e0.bare, Un.kept hk, ⟨_, x.toInCall.ns, fun i y v h1 h2 h3 => ?_⟩, fun y c h => ⟨_, x.cell y c h⟩, e0.hok.fresh (Nat.le_refl _), fun y c h => ?_, fun p hp => absurd (show p ∈ ([] : List (Addr × Obj)) from hp) (by simp), e0.hok.kept hk, ?_⟩
  · exact name_of_addr x.apart (PySem.mem_of_lookup h1) (PySem.mem_of_lookup h2)
  · have hy : scope.names.lookup y = some .cell ∨ scope.names.lookup y = some .free := hy
    rcases hy with hy | hy
    · exact cell_has hy
    · exact absurd rfl (S.nofree _ (PySem.mem_of_lookup hy))
  · exact Nat.le_of_lt (x.above y c (PySem.mem_of_lookup h))
  · have hi : i < vs.length := by
      unfold start at h2
      by_cases hi : i < vs.length
      · exact hi
      · rw [List.getElem?_append_right (by simpa using hi)] at h2
        rw [List.getElem?_replicate] at h2
        split at h2 <;> cases h2
    have ha : vs[i]? = some v := by
      unfold start at h2
      rw [List.getElem?_append_left (by simpa using hi), List.getElem?_map] at h2
      cases e : vs[i]? with
      | none => rw [e] at h2; cases h2
      | some a => rw [e] at h2; cases h2; rfl
    obtain ⟨u, hu, rv⟩ := r.get ha
    have hp : ps[i]? = some y := by
      rw [← S.pre, List.getElem?_take_of_lt (by omega)]; exact h1
    have ndP : ps.Nodup := by rw [← S.pre]; exact S.nd.sublist (List.take_sublist _ _)
    refine ⟨u, rv, ?_⟩
    rcases S.par y (List.mem_of_getElem? hp) with k | k
    · exact .inl ⟨k, bindL_get ndP hp hu k⟩
    · obtain ⟨c, e⟩ := cell_has (n := s.heap.objs.size + 1) k
      refine .inr ⟨.inl k, c, e, ?_⟩
      have q := x.cell y c e
      rw [bindC_get ndP hp hu (by show scope.names.lookup y ≠ _; rw [k]; decide)] at q
      exact q
  · exact e0.hok.fresh (Nat.le_of_lt (x.above y c (PySem.mem_of_lookup h)))
  · unfold start
    show _ = N.length
    rw [List.length_append, List.length_map, List.length_replicate]
    omega

theorem fn_ofW {CX : CXT} {P : Program} {w : World} {K : PySem.W.Frag} {mg : Str → Option Value} {base : Heap} {k : Nat} {f : Addr} {name qual : Str} {params : Arguments} {body : List Stmt} {scope : Scope} {dV kV doc pm cdv ct oc : Value} {an od : Option Addr}
    {osl : Array (Option Value)} {N ps : List Str} {sp : Sp} (lk : K.lookup f = some ⟨oc, od, .func (PySem.W.fnOf name qual params body scope dV kV doc pm an cdv ct), osl⟩) (hcd : PySem.W.codeIn K cdv qual = true) (S : FnScope N ps scope)
    (len : ∀ vs H Q E, sp vs H Q E → vs.length = ps.length)
    (hbody : ∀ (A : Around) (outer : List Env) (s : Shared) (H : Hp) (vs : List V) (Q : VK) (E : XK), RoomW k (A.deeper (envOfC qual scope s.heap.objs.size f cdv)) → sp vs H Q E →
      ∃ t, PSs (cxOfW CX P w K mg base N qual scope f cdv A outer s H E) body t ∧ t { nx := fun _ H' => Q .non H', rt := Q } (start N vs) H) :
    FnOkW P w K mg base CX (k + 1) f (PySem.W.fnOf name qual params body scope dV kV doc pm an cdv ct) ps sp := by
  refine ⟨len, fun A outer s H args us vs Q E hr e0 hb r hsp => ?_⟩
  have hl := len _ _ _ _ hsp
  have KX : K.In s.heap := e0.mod.kin.keeps fun b o e => (e0.bs b o e).1
  have lim : s.heap.NoLimit := e0.mod.nolimit.keeps fun b o e => (e0.bs b o e).1
  have hkind : ∀ y ∈ ps.zip us, scope.names.lookup y.1 = some .local ∨ (scope.names.lookup y.1 = some .cell ∧ ((cellsFrom (s.heap.objs.size + 1) scope.names []).lookup y.1).isSome = true) := fun ⟨n, v⟩ hy => by
    rcases S.par n (List.of_mem_zip hy).1 with q | q
    · exact .inl q
    · exact .inr ⟨q, PySem.W.cellsFrom_some _ _ _ (.inl q)⟩
  refine codeAny_call_function hr.depth (KX _ _ lk) rfl S.co S.gen rfl (PySem.W.codeRec_of KX hcd) (hb _ _ _ _ ?_)
  refine wpAny_newFunctionEnv_cells S.kind hkind fun env he s1 x => ?_
  subst he
  refine ⟨lim.keeps x.toInCall.keep, codeAny_func ?_⟩
  obtain ⟨t, ht, hq⟩ := hbody A outer s H vs Q E (hr.deeper _) hsp
  have I : Inv (cxOfW CX P w K mg base N qual scope f cdv A outer s H E) [] (start N vs) H s1 := inv_startW S e0 hl r x
  refine wpAny_mono (ht [] s1 (start N vs) H _ I hq) (fun fl s' hs => ?_) fun e s' hs => hs
  have fin : ∀ {σ' : St} {H' : Hp} {v : V} {u : Value}, Inv (cxOfW CX P w K mg base N qual scope f cdv A outer s H E) [] σ' H' s' → RelV v u → Q v H' → CE outer P w H s Q u s' :=
    fun {σ' H' v u} J rv q => ⟨v, H', J.os, J.bare, J.base, J.hok, rv, q⟩
  cases fl with
  | ret u =>
    obtain ⟨v, σ', H', J, rv, q⟩ := hs
    exact fin J rv q
  | next =>
    obtain ⟨σ', H', J, q⟩ := hs
    exact fin (v := V.non) (u := Value.none) J rfl q
  | brk =>
    obtain ⟨_, _, _, q⟩ := hs
    exact False.elim q
  | cont =>
    obtain ⟨_, _, _, q⟩ := hs
    exact False.elim q

section
variable {X : Cx} {CX : CXT} {k : Nat} {f : Addr} {fd : FuncData} {ps : List Str} {sp : Sp} {dvs : List V} {ds : List Value} {E : XK} {x : Str} {p pos : Pos} {e : Expr} {es : List Expr} {t : TA}
theorem pe_callW (F : FnOkW X.prog X.w X.K X.mg X.base CX k f fd ps sp) (hr : RoomW k X.A) (hg : Gl X x) (hm : X.mg x = some (.ref f)) (hk : PySem.W.keepIn X.K (.ref f) = true) (hb : Binds X.K fd ps ds) (hd : Vals dvs ds) (hx : Passes CX X E)
    (ha : PA X (e :: es) t) (hdb : (x == ("__debug__" : Str)) = false := by decide) (he : starEach (e :: es) X.env = (false, eval e X.env) :: starEach es X.env := by rfl) (hpl : (backTo pos (starEach es X.env)).any (·.1) = false := by rfl) :
    PE X (.Call (.Name x p) (e :: es) [] pos) (tCall sp dvs E t) := by
  intro pins s σ H Q I h
  refine wpAny_Call_Name_kw (ld_glob I hg hm ?_ hdb)
  refine PySem.W.callWith_K (h₀ := X.base) I.ok.mod.kin hk (thn (ha pos pins s σ H _ I h) fun us s1 ⟨vs, H1, I1, r, q⟩ => ⟨I1.kIn, ?_⟩) he hpl
  have r2 : Vals (vs ++ dvs) (us ++ ds) := r.append hd
  have hl : (us ++ ds).length = ps.length := by rw [← r2.length]; exact F.len _ _ _ _ q
  refine wpAny_call (codeAny_mono (F.run X.A X.stack s1 H1 ⟨us, []⟩ (us ++ ds) (vs ++ dvs) Q E hr I1.env0 (hb s1 us I1.kIn hl) r2 q) fun r s' hq => ?_)
  cases r with
  | error e => exact hx pins σ H1 s1 e s' I1 hq
  | ok fl =>
    cases fl with
    | ret u => exact I1.after hq
    | next => exact False.elim hq
    | brk => exact False.elim hq
    | cont => exact False.elim hq
end

/-! ### defs with exceptions -/
section
variable {P : Program} {w : World} {K : PySem.W.Frag} {mg : Str → Option Value} {base : Heap}
theorem Fun.okX {x qual : Str} {st : Stmt} {f : Addr} {fd : FuncData} {N ps : List Str} {k : Nat} {sp : Sp} (F : Fun K x qual st f fd) (S : FnScope N ps (defScope st)) (len : ∀ vs H Q E, sp vs H Q E → vs.length = ps.length)
    (hbody : ∀ (cdv : Value) (A : Around) (outer : List Env) (s : Shared) (H : Hp) (vs : List V) (Q : VK) (E : XK), Room k (A.deeper (envOfC qual (defScope st) s.heap.objs.size f cdv)) → sp vs H Q E →
      ∃ t, PSs (cxOf (CXf P w) P w K mg base N qual (defScope st) f cdv A outer s H E) (defBody st) t ∧ t { nx := fun _ H' => Q .non H', rt := Q } (start N vs) H) : FnOk P w K mg base (CXf P w) (k + 1) f fd ps sp := by
  obtain ⟨oc, od, kV, doc, pm, an, cdv, ct, osl, rfl, lk, hcd⟩ := F.ex
  exact fn_of lk hcd S len fun A outer s H vs Q E hr hsp => hbody cdv A outer s H vs Q E hr hsp
/-- .. callable within an except suite, too; no exception leaves -/
theorem Fun.okW {x qual : Str} {st : Stmt} {f : Addr} {fd : FuncData} {N ps : List Str} {k : Nat} {sp : Sp} (F : Fun K x qual st f fd) (S : FnScope N ps (defScope st)) (len : ∀ vs H Q E, sp vs H Q E → vs.length = ps.length)
    (hbody : ∀ (cdv : Value) (A : Around) (outer : List Env) (s : Shared) (H : Hp) (vs : List V) (Q : VK) (E : XK), RoomW k (A.deeper (envOfC qual (defScope st) s.heap.objs.size f cdv)) → sp vs H Q E →
      ∃ t, PSs (cxOfW (CXf P w) P w K mg base N qual (defScope st) f cdv A outer s H E).nox (defBody st) t ∧ t { nx := fun _ H' => Q .non H', rt := Q } (start N vs) H) : FnOkW P w K mg base (CXf P w) (k + 1) f fd ps sp := by
  obtain ⟨oc, od, kV, doc, pm, an, cdv, ct, osl, rfl, lk, hcd⟩ := F.ex
  refine fn_ofW lk hcd S len fun A outer s H vs Q E hr hsp => ?_
  obtain ⟨t, h, q⟩ := hbody cdv A outer s H vs Q E hr hsp
  exact ⟨t, h.nox, q⟩
end
/-- a def that raises nothing, taken as one that may -/
theorem FnOk.x {P : Program} {w : World} {K : PySem.W.Frag} {mg : Str → Option Value} {base : Heap} {k : Nat} {f : Addr} {fd : FuncData} {ps : List Str} {sp : Sp} (F : FnOk P w K mg base CX0 k f fd ps sp) : FnOk P w K mg base (CXf P w) k f fd ps sp :=
  ⟨F.len, fun A outer s H args us vs Q E hr he hb hv hs => codeAny_mono (F.run A outer s H args us vs Q E hr he hb hv hs) fun r s' hq => by
    cases r with
    | error e => exact hq.elim
    | ok fl => cases fl <;> exact hq⟩
/-- a law: its promise wants no exception -/
theorem FnOk.law {P : Program} {w : World} {K : PySem.W.Frag} {mg : Str → Option Value} {base : Heap} {k : Nat} {f : Addr} {fd : FuncData} {ps : List Str} {sp sp0 : Sp} (F : FnOk P w K mg base (CXf P w) k f fd ps sp) (h : ∀ vs H Q E, sp0 vs H Q E → sp vs H Q E0) : FnOk P w K mg base CX0 k f fd ps sp0 :=
  ⟨fun vs H Q E q => F.len vs H Q E0 (h _ _ _ _ q), fun A outer s H args us vs Q E hr he hb hv hs => codeAny_mono (F.run A outer s H args us vs Q E0 hr he hb hv (h _ _ _ _ hs)) fun r s' hq => by
    cases r with
    | error e => obtain ⟨_, _, _, _, _, _, _, q⟩ := hq; exact q.elim
    | ok fl => cases fl <;> exact hq⟩
end L2

set_option Elab.async false
set_option linter.all false
set_option maxRecDepth 100000
set_option maxHeartbeats 4000000
namespace L2
open PySem PySem.Spec PyProof.Rows

/-- the context with other pins and another wish -/
abbrev Cx.trying (X : Cx) (pn : List (Addr × Obj)) (xe : Value → Shared → Prop) : Cx := { X with pn := pn, xe := xe }
/-- .. within the suite of a handler that has caught the exception at p -/
abbrev Cx.handling (X : Cx) (pn : List (Addr × Obj)) (p : Addr) : Cx := { X with pn := pn, xe := fun _ _ => False, calm := false, A := X.A.mark (some (.ref p)) }
theorem Cx.Ok.trying {X : Cx} (ok : X.Ok) (pn : List (Addr × Obj)) (xe : Value → Shared → Prop) : (X.trying pn xe).Ok :=
  ⟨ok.mod, ok.kind, ok.glob, ok.blt, ok.above, ok.inj, ok.has, ok.cab, ok.hd, ok.frames, ok.stk, ok.exf, ok.bs, ok.bsz, ok.noex, ok.exfs, ok.funs, ok.frf⟩
theorem Cx.Ok.handling {X : Cx} (ok : X.Ok) (pn : List (Addr × Obj)) (p : Addr) : (X.handling pn p).Ok :=
  ⟨ok.mod, ok.kind, ok.glob, ok.blt, ok.above, ok.inj, ok.has, ok.cab, fun z => absurd (show false = true from z) (by decide), ok.frames, ok.stk, ok.exf, ok.bs, ok.bsz, ok.noex, ok.exfs, ok.funs, ok.frf⟩
section
variable {X : Cx} {pins : List (Addr × Obj)} {σ : St} {H : Hp} {s : Shared}
theorem Inv.trying (I : Inv X pins σ H s) (xe : Value → Shared → Prop) : Inv (X.trying (X.pn ++ pins) xe) [] σ H s :=
  ⟨I.ok.trying _ _, I.os, I.bare, I.base, I.loc, I.cell, I.free, I.freeC, fun p hp => I.pin p (by simpa using hp), I.hok, I.len⟩
theorem Inv.untrying {pins' : List (Addr × Obj)} {xe : Value → Shared → Prop} (ok : X.Ok) (I : Inv (X.trying (X.pn ++ pins) xe) pins' σ H s) : Inv X pins σ H s :=
  ⟨ok, I.os, I.bare, I.base, I.loc, I.cell, I.free, I.freeC, fun p hp => I.pin p (List.mem_append_left _ hp), I.hok, I.len⟩
theorem Inv.unhandling {pins' : List (Addr × Obj)} {p : Addr} (ok : X.Ok) (I : Inv (X.handling (X.pn ++ pins) p) pins' σ H s) : Inv X pins σ H s :=
  ⟨ok, I.os, I.bare, I.base, I.loc, I.cell, I.free, I.freeC, fun p hp => I.pin p (List.mem_append_left _ hp), I.hok, I.len⟩
/-- the handler's entry: the exception is tracked -/
theorem inv_handling {xe : Value → Shared → Prop} {pins' : List (Addr × Obj)} {B h6 : Heap} {p : Addr} {C a0 : Value} {H' : Hp} {s' : Shared} (ok : X.Ok) (I : Inv (X.trying (X.pn ++ pins) xe) pins' σ H s)
    (F : FlyOk X.prog X.w X.stack H s B p C a0 H' s') (fl : Heap.FlyingW B X.stack p C a0 h6) (sm : s'.heap.UpToSlots h6) :
    H' p = none ∧ Inv (X.handling (X.pn ++ pins) p) [] σ (upd H' p (excO p C)) { s' with heap := h6 } := by
  have hp : H' p = none := F.hok.freshN fl.2.1
  have nfr : ∀ b ∈ frs X.stack, b ≠ p := fun b hb z => by
    obtain ⟨_, o, ho, nd⟩ := fl.2.2.1.mem hb
    obtain ⟨oe, vs, _, _, _, he, _, hd, _⟩ := fl.2.2.2
    rw [z] at ho
    have e : o = oe := Option.some.inj (ho.symm.trans he)
    rw [e] at nd
    exact nd vs hd
  have ne : ∀ b o, s.heap.get? b = some o → H b = none → b ≠ p := fun b o e n z => by
    by_cases hb : b ∈ frs X.stack
    · exact nfr b hb z
    · have q := (F.keep b o e n hb).1
      rw [z, fl.2.1] at q; cases q
  have neT : ∀ {b : Addr} {u : HO}, H' b = some u → b ≠ p := fun {b u} e z => by rw [z, hp] at e; cases e
  have U : Un (frs X.stack) [] H (upd H' p (excO p C)) s.heap h6 := {
    keep := fun b o e n hb _ => fl.1 _ _ (F.keep b o e n hb).1
    slot := fun b o e n hb _ => by
      obtain ⟨⟨sl, q⟩, _⟩ := F.frame b o e n hb
      obtain ⟨_, o', ho', nd⟩ := F.fl.2.2.1.mem hb
      have e' : o' = { o with slots := sl } := Option.some.inj (ho'.symm.trans q)
      obtain ⟨sl2, q2⟩ := sm b o' ho' nd
      rw [e'] at q2
      exact ⟨sl2, q2⟩
    free := fun b o e n _ => by
      rw [upd_ne (ne b o e n)]
      by_cases hb : b ∈ frs X.stack
      · exact (F.frame b o e n hb).2
      · exact (F.keep b o e n hb).2
    there := fun b o e _ => by
      cases n : H b with
      | none =>
        by_cases hb : b ∈ frs X.stack
        · obtain ⟨_, o', ho', nd⟩ := fl.2.2.1.mem hb
          exact ⟨o', ho'⟩
        · exact ⟨o, fl.1 _ _ (F.keep b o e n hb).1⟩
      | some u =>
        obtain ⟨o', q⟩ := F.there b o e (by rw [n]; intro z; cases z)
        exact ⟨o', fl.1 _ _ q⟩
    tups := fun b xs e => by rw [upd_ne (neT (F.tups b xs e))]; exact F.tups b xs e
    frzs := fun b o u e => by rw [upd_ne (neT (F.frzs b o u e))]; exact F.frzs b o u e
    tbls := fun b ps e => by
      obtain ⟨m, q⟩ := F.tbls b ps e
      exact ⟨m, by rw [upd_ne (neT q)]; exact q⟩ }
  have hok : HOk X.prog X.w (upd H' p (excO p C)) h6 := fun b u e => by
    by_cases hb : b = p
    · subst hb
      rw [upd_same] at e; cases e
      obtain ⟨o, q, c⟩ := fl.there
      exact IsX.ok ⟨o, q, c⟩
    · rw [upd_ne hb] at e
      exact (F.hok b u e).stay (fun c v _ q => fl.1 c v q) (fun c q => by rw [upd_ne (neT q)]; exact q) fun c xs q => by rw [upd_ne (neT q)]; exact q
  have J := I.call' (s' := { s' with heap := h6 }) (ch := []) F.os U hok F.bare fun b z => absurd z (by simp)
  exact ⟨hp, ⟨ok.handling _ _, J.os, J.bare, J.base, J.loc, J.cell, J.free, J.freeC, fun q hq => J.pin q (List.mem_append_left _ (by simpa using hq)), J.hok, J.len⟩⟩
end

/-- try: body / except x as n: suite. E: the exceptions that may come, by the state -/
def tTry (K : PySem.W.Frag) (Dc : Addr) (i : Nat) (E : St → XK) (tb th : TS) : TS := fun D σ H => tb D σ H ∧ ∀ σ' C H', E σ' C none H' → PySem.W.subIn K C (.ref Dc) = some true ∧ (∃ Cc, C = .ref Cc) ∧
  ∀ p, H' p = none → th { nx := fun σ2 H2 => D.nx (σ2.set i none) H2, rt := D.rt, bk := fun σ2 H2 => D.bk (σ2.set i none) H2, ct := fun σ2 H2 => D.ct (σ2.set i none) H2 } (σ'.set i (some (.ref p))) (upd H' p (excO p C))
theorem ps_try {X : Cx} {body suite : List Stmt} {b₀ : Stmt} {x n : Str} {np hpos pos : Pos} {Dc : Addr} {i : Nat} {E : St → XK} {tb th : TS} (TD : ECls X.K Dc) (hg : Gl X x) (hm : X.mg x = some (.ref Dc)) (hst : X.stack = X.env :: X.outer) (hfr : X.env.frame = some X.env.locals)
    (hN : X.N.Nodup) (hi : X.N[i]? = some n) (hn : X.env.scope.names.lookup n = some .local)
    (hb : ∀ pn xe, PassesS (CXf X.prog X.w) (X.trying pn xe) E → PSs (X.trying pn xe) body tb) (hh : ∀ pn p, PSs (X.handling pn p) (b₀ :: suite) th) (hdb : (x == ("__debug__" : Str)) = false := by decide) :
    PS X (.Try body [.ExceptHandler (some (.Name x np)) (some n) (b₀ :: suite) hpos] [] [] pos) (tTry X.K Dc i E tb th) := by
  intro pins s σ H D I h
  obtain ⟨h1, h2⟩ := h
  refine wpAny_Try_except ?_
  have hcls : (X.env.scope.kind == .class || (X.env.scope.kind == .module && X.env.locals != X.env.globals)) = false := by rw [I.ok.kind]; rfl
  refine wpAny_mono (hb (X.pn ++ pins) _ ?_ [] s σ H D (I.trying _) h1) (fun f s1 q => ?_) fun e s1 q => q
  · -- an exception has come
    intro pins1 σ1 H1 s1 e s' I1 hcx
    obtain ⟨p, C, a0, B, H', rfl, F, q⟩ := hcx
    obtain ⟨hsub, ⟨Cc, hCc⟩, hth⟩ := h2 σ1 C H' q
    subst hCc
    have F' : FlyOk X.prog X.w X.stack H1 s1 B p (.ref Cc) a0 H' s' := F
    have fl0 := F'.fl
    rw [hst] at fl0
    refine wpAny_looks_onW (by rw [I.ok.frames, hst]) hfr fl0 fun h4 held4 sm4 => ?_
    refine wpAny_landsW held4 fun h5 fl5 sm5 => ?_
    have base5 : ∀ b o, X.base.get? b = some o → h5.get? b = some o := fun b o e => by
      obtain ⟨e1, n1⟩ := I1.bs b o e
      refine fl5.1 _ _ (F'.keep b o e1 n1 fun z => ?_).1
      have := (I1.stack.mem z).1
      rw [e] at this; cases this
    have kin5 : X.K.In h5 := I.ok.mod.kin.keeps base5
    obtain ⟨oe, hoe, hoc⟩ := fl5.there
    refine wpAny_handleBy_cons (codeAny_handlers_test (Calls.Name_function_global I.ok.kind hg (Calls.loadGlobal_global (by rw [I.ok.glob]; exact I.ok.mod.glob.keeps base5) hm ?_) hdb)) (by intro z; cases z)
    refine exc_matches (K := X.K) kin5 TD hoe hoc hsub ?_
    show codeAny _ _ _ _ _
    refine codeAny_handlers_suite_as ?_
    refine lands_againW fl5 fun h6 fl6 sm6 => ?_
    have fl6' : Heap.FlyingW B X.stack p (.ref Cc) a0 h6 := by rw [hst]; exact fl6
    obtain ⟨hp, IH⟩ := inv_handling I.ok I1 F' fl6' ((sm4.trans sm5).trans sm6)
    refine store_ok2 (X := X.handling (X.pn ++ pins) p) IH hN hi (.inl hn) (v := .ref p) rfl (fun s7 I7 _ => ?_) (.inr hn)
    refine wpAny_mono (hh _ p [] s7 _ _ _ I7 (hth p hp)) (fun f s8 q8 => ?_) fun _ _ z => z.elim
    -- behind the suite: the name is gone
    have gone : ∀ {σ2 : St} {H2 : Hp} {Q : Unit → Shared → Prop}, Inv (X.handling (X.pn ++ pins) p) [] σ2 H2 s8 → (∀ s9, Inv X pins (σ2.set i none) H2 s9 → Q () s9) →
        wpAny (model X.prog X.w) X.A (do bindName X.env n .none; unbindBehindTheSuite X.env n hpos) Q X.xe s8 := fun {σ2 H2 Q} I8 k => by
      have I8' : Inv X pins σ2 H2 s8 := I8.unhandling I.ok
      refine wpAny_bind (wpAny_bindName (store_ok2 I8' hN hi (.inl hn) (v := .non) rfl (fun s9 I9 _ => ?_) (.inr hn)))
      obtain ⟨m, hm9, hl9⟩ := I9.loc
      have hiσ : i < (σ2.set i (some V.non)).length := by rw [I9.len]; exact (List.getElem?_eq_some_iff.mp hi).1
      have hiσ2 : i < σ2.length := by simpa using hiσ
      obtain ⟨u, ru, lk⟩ := hl9 i n .non hi (by rw [List.getElem?_set_self hiσ2]) (.inl hn)
      have hmn : m n = some u := by
        rcases lk with ⟨_, z⟩ | ⟨hk, _⟩
        · exact z
        · have hk' : X.env.scope.names.lookup n = some .cell ∨ X.env.scope.names.lookup n = some .free := hk
          rw [hn] at hk'
          rcases hk' with z | z <;> cases z
      unfold unbindBehindTheSuite
      refine wpAny_onRaise (wpAny_unbindName_local hn hm9 hmn hcls fun h' uu hn' sb => k _ ?_)
      obtain ⟨oL, _, _, hoL, _⟩ := id hm9
      have hok : HOk X.prog X.w H2 h' := fun b ob e => by
        refine (I9.hok b ob e).stay (fun c w' hc q => (sb.2 c ?_).trans q) (fun _ q => q) fun _ _ q => q
        rintro rfl
        rcases hc with rfl | hc
        · rw [I9.free] at e; cases e
        · rw [I9.free] at hc; cases hc
      have nL : ∀ b o, X.s₀.heap.get? b = some o → b ≠ X.env.locals := fun b o e => Nat.ne_of_lt (Nat.lt_of_lt_of_le (Heap.lt_size e) I9.ok.above)
      refine ⟨I9.ok, I9.os, I9.bare, ⟨fun b o e n' hb hx => (sb.2 b (nL b o e)).trans (I9.base.keep b o e n' hb hx), fun b o e n' hb hx => ?_, I9.base.free, fun b o e hx => ?_, I9.base.tups, I9.base.frzs, I9.base.tbls⟩, ⟨_, hn', fun j y v e1 e2 e3 => ?_⟩, fun y c e => ?_, I9.free, I9.freeC, fun q hq => ?_, hok, by simpa using I9.len⟩
      · obtain ⟨sl, e1⟩ := I9.base.slot b o e n' hb hx
        exact ⟨sl, (sb.2 b (nL b o e)).trans e1⟩
      · obtain ⟨o', e1⟩ := I9.base.there b o e hx
        exact ⟨o', (sb.2 b (nL b o e)).trans e1⟩
      · by_cases hj : j = i
        · subst hj
          rw [List.getElem?_set_self hiσ2] at e2
          cases e2
        · rw [List.getElem?_set_ne (Ne.symm hj)] at e2
          obtain ⟨u', r', l'⟩ := hl9 j y v e1 (by rw [List.getElem?_set_ne (Ne.symm hj)]; exact e2) e3
          refine ⟨u', r', ?_⟩
          rcases l' with ⟨k1, z⟩ | ⟨k1, c, z1, z2⟩
          · have : y ≠ n := fun e => hj (nodup_ix hN e1 (e ▸ hi))
            exact .inl ⟨k1, by simp [this, z]⟩
          · exact .inr ⟨k1, c, z1, z2.sameBut sb (I9.cne y c z1)⟩
      · obtain ⟨w', z⟩ := I9.cell y c e
        exact ⟨w', z.sameBut sb (I9.cne y c e)⟩
      · obtain ⟨e, n', ne, nf, d⟩ := I9.pin q hq
        exact ⟨(sb.2 q.1 ne).trans e, n', ne, nf, d⟩
    cases f with
    | next => obtain ⟨σ2, H2, I8, q8⟩ := q8; exact gone I8 fun s9 I9 => ⟨_, H2, I9, q8⟩
    | brk => obtain ⟨σ2, H2, I8, q8⟩ := q8; exact gone I8 fun s9 I9 => ⟨_, H2, I9, q8⟩
    | cont => obtain ⟨σ2, H2, I8, q8⟩ := q8; exact gone I8 fun s9 I9 => ⟨_, H2, I9, q8⟩
    | ret u => obtain ⟨v, σ2, H2, I8, r8, q8⟩ := q8; exact gone I8 fun s9 I9 => ⟨v, _, H2, I9, r8, q8⟩
  · cases f with
    | next => obtain ⟨σ2, H2, I8, q8⟩ := q; exact wpAny_execs_nil ⟨σ2, H2, I8.untrying I.ok, q8⟩
    | brk => obtain ⟨σ2, H2, I8, q8⟩ := q; exact ⟨σ2, H2, I8.untrying I.ok, q8⟩
    | cont => obtain ⟨σ2, H2, I8, q8⟩ := q; exact ⟨σ2, H2, I8.untrying I.ok, q8⟩
    | ret u => obtain ⟨v, σ2, H2, I8, r8, q8⟩ := q; exact ⟨v, σ2, H2, I8.untrying I.ok, r8, q8⟩
end L2

set_option Elab.async false
set_option linter.all false
set_option maxRecDepth 100000
set_option maxHeartbeats 4000000
namespace L2
open PySem PySem.Spec PyProof.Rows PySem.W

/-! ### what the sort asks: a tree of questions, run by a table of answers -/
def kGood {α : Type} (N : Nat) (P : α → Prop) : KasT α → Prop
  | .ret a => P a
  | .ask i j k => i < N ∧ j < N ∧ ∀ b, kGood N P (k b)
def kRun {α : Type} (lt : Nat → Nat → Bool) : KasT α → α
  | .ret a => a
  | .ask i j k => kRun lt (k (lt i j))
theorem kGood_bind {α β : Type} {N : Nat} {P : α → Prop} {R : β → Prop} {f : α → KasT β} (hf : ∀ a, P a → kGood N R (f a)) : ∀ {t : KasT α}, kGood N P t → kGood N R (t.bind f)
  | .ret a, h => hf a h
  | .ask i j k, h => ⟨h.1, h.2.1, fun b => kGood_bind hf (h.2.2 b)⟩
theorem kGood_run {α : Type} {N : Nat} {P : α → Prop} {lt : Nat → Nat → Bool} : ∀ {t : KasT α}, kGood N P t → P (kRun lt t)
  | .ret a, h => h
  | .ask i j k, h => kGood_run (t := k (lt i j)) (h.2.2 (lt i j))
theorem kWp_run {α : Type} {N : Nat} {P : α → Prop} {lt : Nat → Nat → Bool} {cmp : Nat → Nat → (Bool → Shared → Prop) → Shared → Prop} {Q : α → Shared → Prop} (hc : ∀ i j (C : Bool → Shared → Prop) s, i < N → j < N → C (lt i j) s → cmp i j C s) :
    ∀ {t : KasT α} {s : Shared}, kGood N P t → (∀ s', s' = s → Q (kRun lt t) s') → (∀ i j (C : Bool → Shared → Prop), i < N → j < N → C (lt i j) s → cmp i j C s) → t.kasWp cmp Q s
  | .ret a, s, _, q, _ => q s rfl
  | .ask i j k, s, h, q, hs => hs i j _ h.1 h.2.1 (kWp_run hc (h.2.2 (lt i j)) q hs)
/-- all items of p lie below N -/
def pIn (N : Nat) (p : Array Nat) : Prop := 0 < N ∧ ∀ x ∈ p.toList, x < N
theorem pIn.get {N : Nat} {p : Array Nat} (h : pIn N p) (k : Nat) : p.getD k 0 < N := by
  rw [Array.getD_eq_getD_getElem?]
  cases e : p[k]? with
  | none => exact h.1
  | some x =>
    have : x ∈ p.toList := by
      rw [Array.mem_toList_iff]
      exact Array.mem_of_getElem? e
    exact h.2 x this
theorem pIn.perm {N : Nat} {p q : Array Nat} (h : pIn N p) (hp : q.Perm p) : pIn N q := ⟨h.1, fun x hx => h.2 x ((Array.perm_iff_toList_perm.mp hp).mem_iff.mp hx)⟩
theorem pIn.rev {N : Nat} {p : Array Nat} (h : pIn N p) (i j : Nat) : pIn N (kas_rev p i j) := h.perm (mirror_perm _ _ _ _)
/-- an ordering of what a stands for -/
def pOf (N : Nat) (a p : Array Nat) : Prop := p.Perm a ∧ pIn N p
theorem pOf.rev {N : Nat} {a p : Array Nat} (h : pOf N a p) (i j : Nat) : pOf N a (kas_rev p i j) := ⟨(mirror_perm _ _ _ _).trans h.1, h.2.rev i j⟩
theorem asc_good {N : Nat} {p : Array Nat} (h : pIn N p) : ∀ (f n : Nat), kGood N (fun _ => True) (kas_asc p f n)
  | 0, n => trivial
  | f + 1, n => ⟨h.get _, h.get _, fun b => by cases b; exact asc_good h f (n + 1); exact trivial⟩
theorem desc_good {N : Nat} {a : Array Nat} : ∀ (f : Nat) (p : Array Nat) (n q : Nat), pOf N a p → kGood N (fun r => pOf N a r.1) (kas_desc f p n q)
  | 0, p, n, q, h => h
  | f + 1, p, n, q, h => by
    refine ⟨h.2.get _, h.2.get _, fun b => ?_⟩
    cases b with
    | true =>
      show kGood N _ (if true = true then _ else _)
      rw [if_pos rfl]
      split
      · exact desc_good f _ _ _ (h.rev _ _)
      · exact desc_good f _ _ _ h
    | false =>
      show kGood N _ (if false = true then _ else _)
      rw [if_neg Bool.false_ne_true]
      refine ⟨h.2.get _, h.2.get _, fun b => ?_⟩
      cases b with
      | true => exact h
      | false => exact desc_good f _ _ _ h
theorem tail3_good {N : Nat} {a p : Array Nat} (h : pOf N a p) (n nrem : Nat) : kGood N (fun r => pOf N a r.2) (kas_tail3 n nrem p) :=
  kGood_bind (N := N) (P := fun _ => True) (R := fun r : Nat × Array Nat => pOf N a r.2) (f := fun m => .ret (m, kas_rev p 0 n)) (fun m _ => (show pOf N a (kas_rev p 0 n) from h.rev 0 n)) (asc_good (h.rev 0 n).2 _ _)
theorem descPart_good {N : Nat} {a p : Array Nat} (h : pOf N a p) (n nrem : Nat) : kGood N (fun r => pOf N a r.2) (kas_descPart n nrem p) := by
  refine kGood_bind (P := fun r => pOf N a r.1) (fun r hr => ?_) (desc_good _ p _ _ h)
  split
  · exact tail3_good (hr.rev _ _) _ _
  · exact tail3_good hr _ _
theorem count_good {N : Nat} {a p : Array Nat} (h : pOf N a p) (nrem : Nat) : kGood N (fun r => pOf N a r.2) (kas_count nrem p) := by
  refine kGood_bind (fun n _ => ?_) (asc_good h.2 _ _)
  split
  · exact h
  · split
    · refine ⟨h.2.get _, h.2.get _, fun b => ?_⟩
      cases b with
      | true => exact h
      | false => exact descPart_good (h.rev _ _) _ _
    · exact descPart_good h _ _
theorem place_good {N : Nat} {p : Array Nat} (h : pIn N p) (k : Nat) : ∀ (f l r : Nat), kGood N (fun _ => True) (kas_place p k f l r)
  | 0, l, r => trivial
  | f + 1, l, r => by
    unfold kas_place
    split
    · trivial
    · exact ⟨h.get _, h.get _, fun b => by cases b; exact place_good h k f _ _; exact place_good h k f _ _⟩
theorem bin_good {N : Nat} {a : Array Nat} : ∀ (f : Nat) (p : Array Nat) (k : Nat), pOf N a p → kGood N (fun r => pOf N a r) (kas_bin f p k)
  | 0, p, k, h => h
  | f + 1, p, k, h => kGood_bind (fun l _ => bin_good f _ _ ⟨(bubble_perm _ _ _).trans h.1, h.2.perm (bubble_perm _ _ _)⟩) (place_good h.2 _ _ _ _)
theorem sort_good {n : Nat} (h : 0 < n) : kGood n (fun r => pOf n (List.toArray (List.range n)) r) (kas_sort n) := by
  have h0 : pOf n (List.toArray (List.range n)) (List.toArray (List.range n)) := ⟨Array.Perm.refl _, h, fun x hx => by simpa using hx⟩
  refine kGood_bind (fun r hr => ?_) (count_good h0 n)
  split
  · exact bin_good _ _ _ hr
  · exact hr

/-! ### the state behind one of the library's steps over frames and news -/
theorem ns_uniq {h : Heap} {a : Addr} {m m' : Str → Option Value} (x : h.Ns a m) (y : h.Ns a m') : m = m' := by
  obtain ⟨o, es, ep, e, d, _, q⟩ := x
  obtain ⟨o', es', ep', e', d', _, q'⟩ := y
  rw [e] at e'; cases e'
  rw [d] at d'; cases d'
  funext z
  rw [← q z, q' z]
theorem Inv.fromK {X : Cx} {pins : List (Addr × Obj)} {σ : St} {H : Hp} {s : Shared} {h' : Heap} {m : Str → Option Value} {D : Addr} {o : HO} {t' : Nat} (I : Inv X pins σ H s) (F : Fr X.base X.env.locals s.heap m) (F' : Fr X.base X.env.locals h' m)
    (N' : News X.base X.env.locals h' (allNews X.base s.heap X.env.locals)) (hD : s.heap.get? D = none) (new : ObjOk X.prog X.w (upd H D o) h' D o) : Inv X pins σ (upd H D o) { s with heap := h', toks := t' } := by
  have hn := I.hok.freshN hD
  have ne : ∀ b u, s.heap.get? b = some u → b ≠ D := fun b u e z => by rw [z, hD] at e; cases e
  have keep : ∀ b u, b ≠ X.env.locals → s.heap.get? b = some u → h'.get? b = some u := fun b u hb e => by
    cases q : X.base.get? b with
    | some v =>
      have := I.bk b v q
      rw [e] at this; cases this
      exact F'.keep b _ q
    | none => exact (N' (b, u) (mem_allNews hb q e)).1
  refine I.step (g' := s.gens) (d' := s.drawn) (ch := []) (fun _ z => absurd z (by simp)) (fun b u hb _ _ e _ => keep b u hb e) (fun b u hb _ _ e _ => ⟨u.slots, keep b u hb e⟩) (fun b u _ e n => by rw [upd_ne (ne b u e)]; exact n) (fun b u _ e => ?_)
    (fun b xs e => by rw [upd_ne (ne_of_none e hn)]; exact e) (fun b u v e => by rw [upd_ne (ne_of_none e hn)]; exact e) (fun b ps e => ⟨#[], by rw [upd_ne (ne_of_none e hn), e]; simp⟩) (fun m1 hm => by rw [ns_uniq hm F.ns]; exact F'.ns) (fun b u e => ?_) I.bare
  · by_cases hb : b = X.env.locals
    · obtain ⟨o', _, _, q, _⟩ := F'.ns
      exact ⟨o', by rw [hb]; exact q⟩
    · exact ⟨u, keep b u hb e⟩
  · by_cases hb : b = D
    · subst hb; rw [upd_same] at e; cases e; exact new
    · rw [upd_ne hb] at e
      refine (I.hok b u e).stay (fun c v hc q => keep c v ?_ q) (fun c q => by rw [upd_ne (ne_of_none q hn)]; exact q) fun c xs q => by rw [upd_ne (ne_of_none q hn)]; exact q
      rintro rfl
      rcases hc with z | hc
      · have f := I.free; rw [z, e] at f; cases f
      · rw [I.free] at hc; cases hc
theorem fresh_of_news {X : Cx} {pins : List (Addr × Obj)} {σ : St} {H : Hp} {s : Shared} {h' : Heap} {D : Addr} {o : Obj} (I : Inv X pins σ H s) (N : News X.base X.env.locals h' ((D, o) :: allNews X.base s.heap X.env.locals)) (hlt : ∀ q ∈ allNews X.base s.heap X.env.locals, q.1 < D) : s.heap.get? D = none := by
  cases e : s.heap.get? D with
  | none => rfl
  | some u =>
    obtain ⟨_, n1, n2⟩ := N (D, o) List.mem_cons_self
    exact absurd (hlt (D, u) (mem_allNews n1 n2 e)) (Nat.lt_irrefl _)
end L2

set_option Elab.async false
set_option linter.all false
set_option maxRecDepth 100000
set_option maxHeartbeats 4000000
namespace L2
open PySem PySem.Spec PyProof.Rows PySem.W

/-! ### sorted of a list of pairs of ints -/
def pairLt (x y : Int × Int) : Bool := if x.1 = y.1 then (if x.2 = y.2 then false else decide (x.2 < y.2)) else decide (x.1 < y.1)
/-- the places in their order, as the sort comes to it -/
def sortIx (ys : List (Int × Int)) : List Nat := (kRun (fun i j => pairLt (ys.getD i (0, 0)) (ys.getD j (0, 0))) (kas_sort ys.length)).toList
theorem sortIx_perm {ys : List (Int × Int)} (h : 0 < ys.length) : (sortIx ys).Perm (List.range ys.length) := by
  have g := (kGood_run (lt := fun i j => pairLt (ys.getD i (0, 0)) (ys.getD j (0, 0))) (sort_good h)).1
  exact Array.perm_iff_toList_perm.mp g
def sortP (ys : List (Int × Int)) : List (Int × Int) := (sortIx ys).map fun i => ys.getD i (0, 0)
/-- at a stands the pair y -/
def PairAt (K : PySem.W.Frag) (H : Hp) (a : Addr) (y : Int × Int) : Prop := SqT K H a [.int y.1, .int y.2]
section
variable {X : Cx}
theorem pair_there {pins : List (Addr × Obj)} {σ : St} {H : Hp} {s : Shared} {a : Addr} {y : Int × Int} (I : Inv X pins σ H s) (h : PairAt X.K H a y) : ∃ o n t u, s.heap.get? a = some o ∧ o.cls = .type "tuple" ∧ o.data = .seq #[.int y.1 t, .int y.2 u] n := by
  obtain ⟨its, r, p, _⟩ := I.tuple h
  obtain ⟨u1, u2, rfl, r1, r2⟩ := r.two
  obtain ⟨t, rfl⟩ := r1
  obtain ⟨t', rfl⟩ := r2
  obtain ⟨o, e, c, n, d⟩ := p
  exact ⟨o, n, t, t', e, c, d⟩
theorem ask_pairs {A : Around} {h' : Heap} {s : Shared} {as : List Addr} {ys : List (Int × Int)} (hh : s.heap = h') (ht : ∀ i, i < ys.length → ∃ a o n t u, as[i]? = some a ∧ h'.get? a = some o ∧ o.cls = .type "tuple" ∧ o.data = .seq #[.int (ys.getD i (0, 0)).1 t, .int (ys.getD i (0, 0)).2 u] n)
    {i j : Nat} (hi : i < ys.length) (hj : j < ys.length) {C : Bool → Shared → Prop} (q : C (pairLt (ys.getD i (0, 0)) (ys.getD j (0, 0))) s) :
    kas_ask X.prog X.w A (tuples' true) (as.map Value.ref) i j C s := by
  obtain ⟨a, o, n, t, u, ea, eo, _, ed⟩ := ht i hi
  obtain ⟨b, o', n', t', u', eb, eo', _, ed'⟩ := ht j hj
  subst hh
  unfold kas_ask
  have e1 : (as.map Value.ref).getD i Value.none = .ref a := by rw [List.getD_eq_getElem?_getD, List.getElem?_map, ea]; rfl
  have e2 : (as.map Value.ref).getD j Value.none = .ref b := by rw [List.getD_eq_getElem?_getD, List.getElem?_map, eb]; rfl
  rw [e1, e2]
  unfold pairLt at q
  refine kat_lt eo ed eo' ed' (kat_cons (wpAny_eqBool_int ?_))
  by_cases h1 : (ys.getD i (0, 0)).1 = (ys.getD j (0, 0)).1
  · rw [if_pos h1] at q
    rw [beq_iff_eq.mpr h1]
    refine kat_yes (kat_cons (wpAny_eqBool_int ?_))
    by_cases h2 : (ys.getD i (0, 0)).2 = (ys.getD j (0, 0)).2
    · rw [if_pos h2] at q
      rw [beq_iff_eq.mpr h2]
      exact kat_yes (kat_nil (by simpa using q))
    · rw [if_neg h2] at q
      rw [beq_eq_false_iff_ne.mpr h2]
      exact kat_no (kat_one _ _ (lt_int q))
  · rw [if_neg h1] at q
    rw [beq_eq_false_iff_ne.mpr h1]
    exact kat_no (oneLt_int q)
def rSortP (K : PySem.W.Frag) : List V → Hp → VK → Prop := fun xs H Q => ∃ (l : Addr) (as : List Addr) (ys : List (Int × Int)), xs = [.ref l] ∧ SqL K H l (as.map V.ref) ∧ as.length = ys.length ∧ (∀ i, i < ys.length → PairAt K H (as.getD i 0) (ys.getD i (0, 0))) ∧
  2 ≤ ys.length ∧ ys.length < 64 ∧ ∀ D, H D = none → Q (.ref D) (upd H D (.lst ((sortIx ys).map fun i => V.ref (as.getD i 0))))
theorem call_sortP : CallR X (.builtin "sorted") (rSortP X.K) := by
  intro pins s σ H xs us Q I r h
  obtain ⟨l, as, ys, rfl, hl, hlen, hp, h2, h64, q⟩ := h
  obtain ⟨u1, rfl, r1⟩ := r.one
  obtain rfl : u1 = Value.ref l := r1
  obtain ⟨its, rv, pl, hz⟩ := I.list hl
  have hits : its = as.map Value.ref := by
    have go : ∀ (as : List Addr) (its : List Value), Vals (as.map V.ref) its → its = as.map Value.ref := by
      intro as
      induction as with
      | nil => intro its r; cases r; rfl
      | cons a as ih =>
        intro its r
        cases r with
        | cons r rr =>
          obtain rfl := (show _ = Value.ref a from r)
          rw [ih _ rr]; rfl
    exact go as its rv
  subst hits
  obtain ⟨m, F⟩ := I.fr
  have hvl : (as.map Value.ref).length = ys.length := by rw [List.length_map, hlen]
  refine kat_sorted F news_all pl.isList (by rw [hvl]; exact h2) (by rw [hvl]; exact h64) fun D e1 h' F' N' hlt => ?_
  have hD := fresh_of_news I N' hlt
  have keep : ∀ b u, b ≠ X.env.locals → s.heap.get? b = some u → h'.get? b = some u := fun b u hb e => by
    cases z : X.base.get? b with
    | some v =>
      have := I.bk b v z
      rw [e] at this; cases this
      exact F'.keep b _ z
    | none => exact (N' (b, u) (List.mem_cons_of_mem _ (mem_allNews hb z e))).1
  have ht : ∀ i, i < ys.length → ∃ a o n t u, as[i]? = some a ∧ h'.get? a = some o ∧ o.cls = .type "tuple" ∧ o.data = .seq #[.int (ys.getD i (0, 0)).1 t, .int (ys.getD i (0, 0)).2 u] n := fun i hi => by
    obtain ⟨o, n, t, u, e, c, d⟩ := pair_there I (hp i hi)
    have hi' : i < as.length := by omega
    refine ⟨as.getD i 0, o, n, t, u, ?_, keep _ _ ?_ e, c, d⟩
    · rw [List.getD_eq_getElem?_getD, List.getElem?_eq_getElem hi']; rfl
    · intro z
      obtain ⟨_, _, _, q1, q2, _⟩ := F.ns
      rw [z, q1] at e
      cases e
      rw [q2] at d; cases d
  -- the kind of the keys
  have kt : ∃ fs, KatTups h' (as.map Value.ref) fs ∧ fs.length = ys.length ∧ ∀ v ∈ fs, ∃ n t, v = Value.int n t := by
    have go : ∀ (as : List Addr), (∀ a ∈ as, ∃ o n x t y u, h'.get? a = some o ∧ o.cls = .type "tuple" ∧ o.data = .seq #[.int x t, .int y u] n) → ∃ fs, KatTups h' (as.map Value.ref) fs ∧ fs.length = as.length ∧ ∀ v ∈ fs, ∃ n t, v = Value.int n t := by
      intro as
      induction as with
      | nil => intro _; exact ⟨[], trivial, rfl, fun v hv => nomatch hv⟩
      | cons a as ih =>
        intro ha
        obtain ⟨fs, k1, k2, k3⟩ := ih fun b hb => ha b (List.mem_cons_of_mem _ hb)
        obtain ⟨o, n, x, t, y, u, e, c, d⟩ := ha a List.mem_cons_self
        refine ⟨.int x t :: fs, KatTups.cons e c d rfl k1, by simp [k2], fun v hv => ?_⟩
        rcases List.mem_cons.mp hv with z | z
        · exact ⟨x, t, z⟩
        · exact k3 v z
    obtain ⟨fs, k1, k2, k3⟩ := go as fun a ha => by
      obtain ⟨i, hi, e⟩ := List.mem_iff_getElem.mp ha
      obtain ⟨a', o, n, t, u, e', e2, c, d⟩ := ht i (by omega)
      rw [List.getElem?_eq_getElem hi, e] at e'
      cases e'
      exact ⟨o, n, _, t, _, u, e2, c, d⟩
    exact ⟨fs, k1, by omega, k3⟩
  obtain ⟨fs, k1, k2, k3⟩ := kt
  refine kat_kind (s := { s with heap := h' }) (T := .type "int") k1 (by omega) (fun v hv => ?_) rfl ?_
  · obtain ⟨n, t, rfl⟩ := k3 v hv
    exact Looks.of_pure rfl
  have eb : ((Value.type "int") != (Value.type "tuple")) = true := by decide
  rw [eb, hvl]
  have hn0 : 0 < ys.length := by omega
  have asks : ∀ (i j : Nat) (C : Bool → Shared → Prop) (s1 : Shared), s1 = { s with heap := h' } → i < ys.length → j < ys.length → C (pairLt (ys.getD i (0, 0)) (ys.getD j (0, 0))) s1 → kas_ask X.prog X.w X.A.in1.in1 (tuples' true) (as.map Value.ref) i j C s1 :=
    fun i j C s1 e hi hj q => ask_pairs (h' := h') (by rw [e]) ht hi hj q
  have hg := sort_good hn0
  have run : ∀ {t : KasT (Array Nat)} {Q' : Array Nat → Shared → Prop}, kGood ys.length (fun r => pOf ys.length (List.toArray (List.range ys.length)) r) t → Q' (kRun (fun i j => pairLt (ys.getD i (0, 0)) (ys.getD j (0, 0))) t) { s with heap := h' } →
      t.kasWp (kas_ask X.prog X.w X.A.in1.in1 (tuples' true) (as.map Value.ref)) Q' { s with heap := h' } := fun {t} => by
    induction t with
    | ret a => intro Q' _ q; exact q
    | ask i j k ih => intro Q' g q; exact asks i j _ _ rfl g.1 g.2.1 (ih _ (g.2.2 _) q)
  refine run hg ?_
  refine KasFin.intro (g := fun o' => (D, o') :: allNews X.base s.heap X.env.locals) F' N' (.head fun p hp z => absurd (hlt p hp) (by rw [z]; exact Nat.lt_irrefl _)) fun h2 c F2 N2 => ?_
  have hD2 : h2.get? D = some (listOf (List.toArray ((kRun (fun i j => pairLt (ys.getD i (0, 0)) (ys.getD j (0, 0))) (kas_sort ys.length)).toList.map fun i => (as.map Value.ref).getD i Value.none)) c) := (N2 _ List.mem_cons_self).1
  have perm := sortIx_perm hn0
  have hlenI : (sortIx ys).length = ys.length := by rw [perm.length_eq, List.length_range]
  have vals : Vals ((sortIx ys).map fun i => V.ref (as.getD i 0)) ((kRun (fun i j => pairLt (ys.getD i (0, 0)) (ys.getD j (0, 0))) (kas_sort ys.length)).toList.map fun i => (as.map Value.ref).getD i Value.none) := by
    show Vals ((sortIx ys).map fun i => V.ref (as.getD i 0)) ((sortIx ys).map fun i => (as.map Value.ref).getD i Value.none)
    have go : ∀ (l : List Nat), (∀ i ∈ l, i < as.length) → Vals (l.map fun i => V.ref (as.getD i 0)) (l.map fun i => (as.map Value.ref).getD i Value.none) := by
      intro l
      induction l with
      | nil => intro _; exact .nil
      | cons i l ih =>
        intro hl
        have hi := hl i List.mem_cons_self
        refine .cons ?_ (ih fun j hj => hl j (List.mem_cons_of_mem _ hj))
        show (as.map Value.ref).getD i Value.none = Value.ref (as.getD i 0)
        rw [List.getD_eq_getElem?_getD, List.getElem?_map, List.getElem?_eq_getElem hi, List.getD_eq_getElem?_getD, List.getElem?_eq_getElem hi]
        rfl
    exact go _ fun i hi => by
      have := perm.mem_iff.mp hi
      rw [List.mem_range] at this
      omega
  have I2 : Inv X pins σ (upd H D (.lst ((sortIx ys).map fun i => V.ref (as.getD i 0)))) { s with heap := h2, toks := s.toks } := by
    refine I.fromK F F2 (fun p hp => N2 p (List.mem_cons_of_mem _ hp)) hD ⟨?_, _, c, vals, hD2⟩
    rw [List.length_map, hlenI]
    exact Nat.le_trans (Nat.le_of_lt h64) (by decide)
  exact ⟨.ref D, _, I2, rfl, q D (I.hok.freshN hD)⟩
end
end L2

set_option Elab.async false
set_option linter.all false
set_option maxRecDepth 100000
set_option maxHeartbeats 4000000
namespace L2
open PySem PySem.Spec PyProof.Rows PySem.W

/-! ### a set of tuples: its table by the hashes alone -/
def hAt (hs : Array Int) (i : Nat) : Int := (hs[i]?).getD 0
/-- one more element, of a hash that none has: none where this goes another way -/
def setStep (hs : Array Int) (t : SetTable) (h : Int) : Option (Array Int × SetTable) :=
  if t.gaveWay then none else
  match t.probe (hAt hs) h (t.probeStart h) with
  | some (.empty j none) =>
    let q := t.put j
    let hs1 := SetTable.insertAt hs q.2 h
    if q.1.fits hs1.size && decide (hs1.size ≤ 4096) then
      if q.1.tooFull then
        (match q.1.relaid hs1 (SetTable.grown (hs.size + 1)) with
        | some (t2, order) =>
          let hs2 := order.filterMap (hs1[·]?)
          if hs2.size == hs1.size && t2.fits hs2.size && decide (SetTable.sizeAbove (SetTable.grown (hs.size + 1)) ≤ 4096) then some (hs2, t2) else none
        | none => none)
      else some (hs1, q.1)
    else none
  | _ => none
def setRun (led : Bool) : List Int → Option (Array Int × SetTable) := fun l => l.foldlM (fun q h => setStep q.1 q.2 h) (#[], SetTable.fresh 0 0 led)
/-- a set stands at S: its hashes, its table -/
def SetAt (h : Heap) (S : Addr) (hs : Array Int) (t : SetTable) : Prop := ∃ o es ep, h.get? S = some o ∧ o.cls = .type "set" ∧ (o.dict = none ∧ o.slots = #[]) ∧ o.data = .set es ep t ∧ es.map (·.1) = hs ∧ t.fits es.size = true
section
variable {prog : Program} {w : World} {A : Around} {E : Value → Shared → Prop} {s : Shared} {S : Addr}
theorem hAt_eq (es : Array (Int × Value)) : (fun i => (es[i]?.map (·.1)).getD 0) = hAt (es.map (·.1)) := by
  funext i
  unfold hAt
  rw [Array.getElem?_map]
theorem insertAt_map (es : Array (Int × Value)) (p : Nat) (x : Int × Value) : (SetTable.insertAt es p x).map (·.1) = SetTable.insertAt (es.map (·.1)) p x.1 := by
  unfold SetTable.insertAt
  simp
theorem order_map (es : Array (Int × Value)) (order : Array Nat) : (order.filterMap (es[·]?)).map (·.1) = order.filterMap ((es.map (·.1))[·]?) := by
  apply Array.ext'
  rw [Array.toList_map, Array.toList_filterMap, Array.toList_filterMap, List.map_filterMap]
  congr 1
  funext i
  rw [Array.getElem?_map]
theorem set_search {hs : Array Int} {t : SetTable} {h : Int} {x : Value} {j : Nat} {Q : SetFound → Shared → Prop} (hS : SetAt s.heap S hs t) (hg : t.gaveWay = false) (hp : t.probe (hAt hs) h (t.probeStart h) = some (.empty j none)) (q : Q (.free j false) s) :
    wpAny (model prog w) A (setSearch S x h true) Q E s := by
  obtain ⟨o, es, ep, ho, hc, hdi, hd, hm, hf⟩ := hS
  unfold setSearch setSearchFrom
  refine wpAny_bind (wpAny_setState_of ho hd hf ?_)
  dsimp only
  rw [hg, if_neg Bool.false_ne_true]
  have hp' : t.probe (fun i => (es[i]?.map (·.1)).getD 0) h (t.probeStart h) = some (.empty j none) := by rw [hAt_eq, hm]; exact hp
  refine wpAny_bind (wpAny_pure ?_)
  erw [hp']
  exact wpAny_pure q
theorem hash_pair {a : Addr} {o : Obj} {n : Nat} {x y : Int} {t u : Tok} {Q : Bool → Shared → Prop} (ho : s.heap.get? a = some o) (hc : o.cls = .type "tuple") (hd : o.data = .seq #[.int x t, .int y u] n) (q : Q true s) :
    wpAny (model prog w) A (hashByValue 8 (.ref a)) Q E s := by
  have hT : s.TypeIs (.ref a) "tuple" := ⟨_, ho, hc⟩
  unfold hashByValue
  refine wpAny_bind (wpAny_specialOf hT PySem.F.slot_tuple_hash.lookup ?_)
  refine wpAny_bind (wpAny_seqItems ho hd ?_)
  refine wpAny_bind ?_
  show wpAny _ _ (forIn #[Value.int x t, Value.int y u] _ _) _ _ s
  rw [← Array.forIn_toList]
  refine wpAny_forIn_list _ (fun rest r s' => r.1 = none ∧ s' = s ∧ ∀ v ∈ rest, ∃ z k, v = Value.int z k) _ ?_ ?_ _ _ ⟨rfl, rfl, fun v hv => ?_⟩
  · rintro v rest r s' ⟨hr, rfl, hall⟩
    obtain ⟨z, k, rfl⟩ := hall v List.mem_cons_self
    refine wpAny_bind (wpAny_pure ?_)
    exact wpAny_pure ⟨rfl, rfl, fun u' hu' => hall u' (List.mem_cons_of_mem _ hu')⟩
  · rintro ⟨r1, r2⟩ s' ⟨hr, rfl, _⟩
    have hr' : r1 = none := hr
    subst hr'
    exact wpAny_pure q
  · rcases List.mem_cons.mp hv with z | z
    · exact ⟨_, _, z⟩
    · rcases List.mem_cons.mp z with z | z
      · exact ⟨_, _, z⟩
      · cases z
theorem set_put {hs : Array Int} {t t' : SetTable} {es' : Array (Int × Value)} (hS : SetAt s.heap S hs t) (hf : t'.fits es'.size = true) (hz : es'.size ≤ 4096) {Q : Unit → Shared → Prop}
    (q : ∀ h', Heap.SameBut S s.heap h' → SetAt h' S (es'.map (·.1)) t' → Q () { s with heap := h' }) : wpAny (model prog w) A (storeSet S es' t') Q E s := by
  obtain ⟨o, es, ep, ho, hc, hdi, hd, hm, _⟩ := hS
  refine wpAny_storeSet_of ho hd (q _ (Heap.SameBut.update s.heap S (Obj.putSet es' t')) ?_) (Nat.le_trans hz (by decide))
  have g := Heap.get?_update_self (Obj.putSet es' t') ho (by rw [putSet_of es' t' hd]; rfl)
  rw [putSet_of es' t' hd] at g
  exact ⟨_, es', ep + 1, g, hc, hdi, rfl, rfl, hf⟩
/-- one more -/
theorem set_add {hs hs' : Array Int} {t t' : SetTable} {a : Addr} {o : Obj} {n : Nat} {x y : Int} {tx ty : Tok} {Q : Bool → Shared → Prop} (hu : A.units < cLine) (hS : SetAt s.heap S hs t) (ho : s.heap.get? a = some o) (hc : o.cls = .type "tuple") (hd : o.data = .seq #[.int x tx, .int y ty] n) (hne : a ≠ S)
    (hst : setStep hs t (tupleKeyHash (intKind prog w) [x, y]) = some (hs', t')) (q : ∀ h' tk, Heap.SameBut S s.heap h' → SetAt h' S hs' t' → Q true { s with heap := h', toks := tk }) : wpAny (model prog w) A (setAdd S (.ref a)) Q E s := by
  have hk : IsTupleKey (intKind prog w) s.heap [x, y] a := ⟨o, _, n, ho, hc, hd, .cons (intKind_is _ _ _ _) (.cons (intKind_is _ _ _ _) .nil)⟩
  unfold setAdd
  refine wpAny_holding (wpAny_bind (wpAny_pyHash_tuple hu hk ?_))
  generalize htk : s.toks + ([x, y].length + 1) = tk
  generalize hh : tupleKeyHash (intKind prog w) [x, y] = h at hst ⊢
  have hS0 := hS
  obtain ⟨ob, es, ep, hb, hbc, hbd, hbe, hm, hf⟩ := hS
  unfold setAddHashed setAddHashedIn
  refine wpAny_holding (wpAny_bind (wpAny_setState_of (s := { s with toks := tk }) hb hbe hf ?_))
  dsimp only
  have hbs : byScan (.ref a) es = false := by unfold byScan; rfl
  rw [hbs, if_neg Bool.false_ne_true]
  unfold setStep at hst
  cases hg : t.gaveWay with
  | true => rw [hg, if_pos rfl] at hst; cases hst
  | false =>
    rw [hg, if_neg Bool.false_ne_true] at hst
    split at hst
    · rename_i j hp
      dsimp only at hst
      split at hst
      · rename_i hfz
        rw [Bool.and_eq_true, decide_eq_true_eq] at hfz
        refine wpAny_bind (set_search (s := { s with toks := tk }) hS0 hg hp ?_)
        dsimp only
        refine wpAny_bind (wpAny_setState_of (s := { s with toks := tk }) hb hbe hf ?_)
        dsimp only
        -- the hash is told by value
        have byv : ∀ {kk : Bool → Sem Bool}, wpAny (model prog w) A (kk true) Q E { s with toks := tk } → wpAny (model prog w) A (if (t.put j).1.plain = true then hashByValue 8 (.ref a) >>= kk else pure true >>= kk) Q E { s with toks := tk } := fun {kk} hP => by
          split
          · exact wpAny_bind (hash_pair (s := { s with toks := tk }) ho hc hd hP)
          · exact wpAny_bind (wpAny_pure hP)
        refine byv ?_
        simp only [if_true]
        have hsz : (SetTable.insertAt es (t.put j).2 (h, Value.ref a)).size = (SetTable.insertAt hs (t.put j).2 h).size := by
          rw [← hm, ← insertAt_map es (t.put j).2 (h, Value.ref a), Array.size_map]
        refine wpAny_bind (set_put (s := { s with toks := tk }) hS0 (by rw [hsz]; exact hfz.1) (by rw [hsz]; exact hfz.2) fun h1 sb1 S1 => ?_)
        rw [insertAt_map, hm] at S1
        split at hst
        · rename_i htf
          rw [show (!false && (t.put j).1.tooFull) = true by rw [htf]; rfl, if_pos rfl]
          split at hst
          · rename_i t2 order hr
            split at hst
            · rename_i hq
              rw [Bool.and_eq_true, Bool.and_eq_true, decide_eq_true_eq, beq_iff_eq] at hq
              obtain ⟨⟨hq1, hq2⟩, hq3⟩ := hq
              cases hst
              have hes : es.size = hs.size := by rw [← hm, Array.size_map]
              refine wpAny_bind ?_
              unfold setRelay
              obtain ⟨o1, es1, ep1, g1, g2, g3, g4, g5, g6⟩ := id S1
              refine wpAny_bind (wpAny_setState_of (s := { s with heap := h1, toks := tk }) g1 g4 g6 ?_)
              dsimp only
              rw [hes]
              rw [if_neg (by have h4 : (4096 : Nat) ≤ sizeLine := by decide
                             omega)]
              refine wpAny_bind ?_
              rw [g5, hr]
              have hsz2 : (order.filterMap (es1[·]?)).size = es1.size := by
                have e1 := congrArg Array.size (order_map es1 order)
                rw [Array.size_map, g5] at e1
                rw [e1, hq1, ← g5, Array.size_map]
              refine wpAny_of_eq (show _ = (pure (order.filterMap (es1[·]?), t') : Sem (Array (Int × Value) × SetTable)) from ?_) ?_
              · show (do
                  let es' := order.filterMap (es1[·]?)
                  if es'.size != es1.size then unsupported "internal:set-table-lost-an-element"
                  pure (es', t') : Sem (Array (Int × Value) × SetTable)) = _
                simp [hsz2]
              dsimp only
              have hle : es1.size ≤ 4096 := by
                have e1 := congrArg Array.size g5
                rw [Array.size_map] at e1
                rw [e1]
                exact hfz.2
              have hfm : (order.filterMap (es1[·]?)).size = (order.filterMap ((SetTable.insertAt hs (t.put j).2 h)[·]?)).size := by
                have e1 := congrArg Array.size (order_map es1 order)
                rw [Array.size_map, g5] at e1
                exact e1
              refine set_put (s := { s with heap := h1, toks := tk }) S1 (by rw [hfm]; exact hq2) (by rw [hsz2]; exact hle) fun h2 sb2 S2 => ?_
              rw [order_map, g5] at S2
              exact wpAny_pure (q h2 tk (sb1.trans sb2) S2)
            · cases hst
          · cases hst
        · rename_i htf
          cases hst
          have htf' : (t.put j).1.tooFull = false := by simpa using htf
          rw [show (!false && (t.put j).1.tooFull) = false by rw [htf']; rfl, if_neg Bool.false_ne_true]
          exact wpAny_pure (q h1 tk sb1 S1)
      · cases hst
    · cases hst
end
end L2

set_option Elab.async false
set_option linter.all false
set_option maxRecDepth 100000
set_option maxHeartbeats 4000000
namespace L2
open PySem PySem.Spec PyProof.Rows PySem.W
section
variable {prog : Program} {w : World} {A : Around} {E : Value → Shared → Prop} {s : Shared} {S Ia l : Addr} {R : Result → Shared → Prop}
/-- the i-th item of vs is the pair ys i -/
def PairsIn (h : Heap) (vs : List Value) (ys : List (Int × Int)) : Prop := vs.length = ys.length ∧ ∀ i v, vs[i]? = some v → ∃ a o n t u, v = .ref a ∧ h.get? a = some o ∧ o.cls = .type "tuple" ∧ o.data = .seq #[.int (ys.getD i (0, 0)).1 t, .int (ys.getD i (0, 0)).2 u] n
theorem PairsIn.keeps {h h' : Heap} {vs : List Value} {ys : List (Int × Int)} (p : PairsIn h vs ys) (k : ∀ b o, (∃ xs n, o.data = .seq xs n) → h.get? b = some o → h'.get? b = some o) : PairsIn h' vs ys :=
  ⟨p.1, fun i v e => let ⟨a, o, n, t, u, e1, e2, c, d⟩ := p.2 i v e; ⟨a, o, n, t, u, e1, k a o ⟨_, _, d⟩ e2, c, d⟩⟩
def pairHash (prog : Program) (w : World) (y : Int × Int) : Int := tupleKeyHash (intKind prog w) [y.1, y.2]
theorem set_loop {vs : List Value} {ys : List (Int × Int)} {hsN : Array Int} {tN : SetTable} (hh : A.handled = none) (hu : A.units + 1 < cLine) (hlS : l ≠ S) (hlI : l ≠ Ia) (hSI : S ≠ Ia) :
    ∀ (k i : Nat) (s : Shared) (hs : Array Int) (t : SetTable), vs.length - i = k → i ≤ vs.length → s.heap.IsListIter Ia l i → s.heap.IsList l vs.toArray → PairsIn s.heap vs ys → SetAt s.heap S hs t →
      ((ys.drop i).map (pairHash prog w)).foldlM (fun q h => setStep q.1 q.2 h) (hs, t) = some (hsN, tN) →
      (∀ h' tk, (∀ b o, b ≠ S → b ≠ Ia → s.heap.get? b = some o → h'.get? b = some o) → SetAt h' S hsN tN → R (.ok (.ret .none)) { s with heap := h', toks := tk }) →
      codeAny (model prog w) A (.builtin "set.update.loop" ⟨[.ref S, .ref Ia], []⟩) R s := by
  intro k
  induction k with
  | zero =>
    intro i s hs t hk hi hit hl hp hS hf hR
    have e : i = vs.length := by omega
    refine codeAny_builtin PyProof.Rows.F.entry_set_update_loop ?_
    rw [Around.under_plainId PyProof.Rows.F.plain_set_update_loop _]
    show wpAny _ A.in1 (pyNext (.ref Ia) >>= _) _ _ s
    refine wpAny_bind (wpAny_pyNext_list_end (show A.in1.handled = none from hh) hit hl (by simp; omega) fun h' eb => ?_)
    show wpAny _ A.in1 (ret Value.none) _ _ _
    have hd : ys.drop i = [] := by rw [List.drop_eq_nil_iff]; have := hp.1; omega
    rw [hd] at hf
    cases hf
    obtain ⟨o, es, ep, q1, q2⟩ := hS
    exact wpAny_pure (hR h' s.toks (fun b o hb hbI e => eb b o hbI e) ⟨o, es, ep, eb S o hSI q1, q2⟩)
  | succ k ih =>
    intro i s hs t hk hi hit hl hp hS hf hR
    have hlt : i < vs.length := by omega
    refine codeAny_builtin PyProof.Rows.F.entry_set_update_loop ?_
    rw [Around.under_plainId PyProof.Rows.F.plain_set_update_loop _]
    show wpAny _ A.in1 (pyNext (.ref Ia) >>= _) _ _ s
    have hv : vs[i]? = some vs[i] := List.getElem?_eq_getElem hlt
    refine wpAny_bind (wpAny_pyNext_list_item hit hl (x := vs[i]) (by simpa using hv) fun h1 hit1 sb1 => ?_)
    obtain ⟨a, o, n, tx, ty, ea, eo, ec, ed⟩ := hp.2 i _ hv
    rw [ea]
    have neI : ∀ b ob, (∃ xs n, ob.data = .seq xs n) → s.heap.get? b = some ob → b ≠ Ia := fun b ob ⟨xs, m, z⟩ e z' => by
      obtain ⟨oi, e1, _, d1⟩ := hit
      rw [z', e1] at e; cases e
      rw [d1] at z; cases z
    have hp1 : PairsIn h1 vs ys := hp.keeps fun b ob hb e => (sb1.2 b (neI b ob hb e)).trans e
    have hS1 : SetAt h1 S hs t := by
      obtain ⟨oS, es, ep, q1, q2⟩ := hS
      exact ⟨oS, es, ep, (sb1.2 S hSI).trans q1, q2⟩
    have hl1 : h1.IsList l vs.toArray := by
      obtain ⟨ol, q1, q2⟩ := hl
      exact ⟨ol, (sb1.2 l hlI).trans q1, q2⟩
    have eo1 : h1.get? a = some o := (sb1.2 a (neI a o ⟨_, _, ed⟩ eo)).trans eo
    have neS : ∀ b ob, (∃ xs n, ob.data = .seq xs n) → h1.get? b = some ob → b ≠ S := fun b ob ⟨xs, m, z⟩ e z' => by
      obtain ⟨oS, es, ep, q1, _, _, q4, _⟩ := hS1
      rw [z', q1] at e; cases e
      rw [q4] at z; cases z
    have hi2 : i < ys.length := by have := hp.1; omega
    have hdr : ys.drop i = ys[i] :: ys.drop (i + 1) := List.drop_eq_getElem_cons hi2
    have hgy : ys.getD i (0, 0) = ys[i] := by rw [List.getD_eq_getElem?_getD, List.getElem?_eq_getElem hi2]; rfl
    rw [hdr, List.map_cons, List.foldlM_cons] at hf
    cases hst : setStep hs t (pairHash prog w ys[i]) with
    | none => rw [hst] at hf; cases hf
    | some q =>
      obtain ⟨hs2, t2⟩ := q
      rw [hst] at hf
      have hf2 : ((ys.drop (i + 1)).map (pairHash prog w)).foldlM (fun q h => setStep q.1 q.2 h) (hs2, t2) = some (hsN, tN) := hf
      show wpAny _ A.in1 (holding [Value.ref a] (setAdd S (.ref a)) >>= _) _ _ _
      refine wpAny_bind (wpAny_holding (set_add (s := { s with heap := h1 }) (by show A.units + 1 < cLine; exact hu) hS1 eo1 ec ed (neS a o ⟨_, _, ed⟩ eo1) (hs' := hs2) (t' := t2) (by rw [hgy]; exact hst) fun h2 tk sb2 S2 => ?_))
      refine wpAny_pure ⟨plainId_quiet PyProof.Rows.F.plain_set_update_loop _, ?_⟩
      refine ih (i + 1) { s with heap := h2, toks := tk } hs2 t2 (by omega) hlt ?_ ?_ (hp1.keeps fun b ob hb e => (sb2.2 b (neS b ob hb e)).trans e) S2 hf2 fun h3 tk3 k3 S3 => ?_
      · obtain ⟨oi, q1, q2⟩ := hit1
        exact ⟨oi, (sb2.2 Ia (Ne.symm hSI)).trans q1, q2⟩
      · obtain ⟨ol, q1, q2⟩ := hl1
        exact ⟨ol, (sb2.2 l hlS).trans q1, q2⟩
      · exact hR h3 tk3 (fun b ob hb hbI e => k3 b ob hb hbI ((sb2.2 b hb).trans ((sb1.2 b hbI).trans e))) S3
/-- set(l), l a list of pairs -/
theorem set_call {vs : List Value} {ys : List (Int × Int)} {hsN : Array Int} {tN : Bool → SetTable} {Q : Value → Shared → Prop} (hh : A.handled = none) (hu : A.units + 8 < cLine) (hl : s.heap.IsList l vs.toArray) (hp : PairsIn s.heap vs ys)
    (hrun : ∀ led, setRun led (ys.map (pairHash prog w)) = some (hsN, tN led))
    (h : ∀ (led : Bool) (h' : Heap) (tk : Nat), SetAt h' s.heap.objs.size hsN (tN led) → (∀ b o, b < s.heap.objs.size → s.heap.get? b = some o → h'.get? b = some o) → Q (.ref s.heap.objs.size) { s with heap := h', toks := tk }) :
    wpAny (model prog w) A (call (.type "set") [.ref l]) Q E s := by
  obtain ⟨c, tl, hmro⟩ := PySem.F.called_set.mro
  have c1 := PySem.F.called_set.made
  have c2 := PySem.F.called_set.sub
  refine wpAny_call (codeAny_of_tree ?_)
  show wpAny _ _ (callAny (.type "set") _) _ _ _
  refine wpAny_pure ⟨Code.quiet_builtin _ (by decide +kernel), codeAny_builtin PySem.F.entry_type_call ?_⟩
  rw [Around.under_plain (weight_type_call_type "set" [.ref l] []) rfl]
  have c3 := PySem.F.called_set.notType
  have c4 := PySem.F.called_set.canCreate
  have c5 := PySem.F.typeCall_set_1 (.ref l)
  repeat (any_goals (first | assumption | wp_step))
  refine codeAny_mono (code_set_new_1 (.ref l) (E := E) (Q₁ := fun obj s₁ => ∃ led : Bool, obj = .ref s.heap.objs.size ∧ s₁ = { s with heap := s.heap.push { cls := .type "set", dict := none, data := .set #[] 0 (.fresh 0 0 led) } }) fun led => ⟨led, rfl, rfl⟩) fun r s₁ hr => ?_
  cases r with
  | error e => exact hr
  | ok fl =>
    cases fl with
    | next => exact hr.elim
    | brk => exact hr.elim
    | cont => exact hr.elim
    | ret obj =>
      obtain ⟨led, rfl, rfl⟩ := hr
      generalize hpu : s.heap.push { cls := .type "set", dict := none, data := .set #[] 0 (.fresh 0 0 led) } = hS
      have hsz : hS.objs.size = s.heap.objs.size + 1 := by rw [← hpu, Heap.size_push]
      have gS : hS.get? s.heap.objs.size = some { cls := .type "set", dict := none, data := .set #[] 0 (.fresh 0 0 led) } := by rw [← hpu]; exact Heap.get?_push_size _ rfl
      have up : ∀ b o, s.heap.get? b = some o → hS.get? b = some o := fun b o e => by rw [← hpu]; exact Heap.get?_push_of_some _ e
      have hT : Shared.TypeIs { s with heap := hS } (.ref s.heap.objs.size) "set" := ⟨_, gS, rfl⟩
      have c6 := PySem.F.called_set.init.lookup
      have c7 := PySem.F.called_set.init.bind (.ref s.heap.objs.size)
      repeat (any_goals (first | assumption | wp_step))
      refine codeAny_mono (codeAny_call_builtin (R := wants (fun r s₂ => r = .none ∧ ∃ h' tk, s₂ = { s with heap := h', toks := tk } ∧ SetAt h' s.heap.objs.size hsN (tN led) ∧
          (∀ b o, b < s.heap.objs.size → s.heap.get? b = some o → h'.get? b = some o)) E) PySem.F.called_set.init.plain PySem.F.entry_set_init (check_set_init_1 hT ?_)) fun r₂ s₂ hr₂ => ?_
      · obtain ⟨ol, hol, hcl, nl, hdl⟩ := hl
        obtain ⟨ocls, odict, odata, oslots⟩ := ol
        simp only at hcl hdl
        subst hcl; subst hdl
        have hol' := up _ _ hol
        have c8 := PySem.F.sub_list_set
        have c9 := PySem.F.sub_list_frozenset
        have c10 : (Value.type "list" == Value.type "dict") = false := by decide
        have hl1 : hS.IsList l vs.toArray := ⟨_, hol', rfl, nl, rfl⟩
        unfold Builtin.«set.__init__» noKeywords Builtin.Frozenset.updateFrom
        generalize hPI : pyIter = PI
        wp_walk
        subst hPI
        refine wpAny_pyIter_list hl1 ?_
        refine wpAny_bind (wpAny_runValue ?_)
        have hlt : l < s.heap.objs.size := Heap.lt_size hol
        refine set_loop (l := l) (vs := vs) (ys := ys) (hsN := hsN) (tN := tN led) (by simp [hh]) (by simp; omega) (Nat.ne_of_lt hlt) (by rw [hsz]; exact Nat.ne_of_lt (Nat.lt_succ_of_lt hlt)) (by rw [hsz]; exact Nat.ne_of_lt (Nat.lt_succ_self _))
          (vs.length - 0) 0 _ #[] (.fresh 0 0 led) rfl (Nat.zero_le _) ⟨_, Heap.get?_push_size _ rfl, rfl, rfl⟩ (hl1.push _) (hp.keeps fun b o _ e => Heap.get?_push_of_some _ (up b o e)) ⟨_, #[], 0, Heap.get?_push_of_some _ gS, rfl, ⟨rfl, rfl⟩, rfl, by simp, rfl⟩ (hrun led) fun h' tk k S' => ?_
        show wpAny _ _ _ _ _ _
        refine wpAny_pure ?_
        show wpAny _ _ (ret Value.none) _ _ _
        refine wpAny_pure ⟨rfl, h', tk, rfl, S', fun b o hb e => ?_⟩
        exact k b o (Nat.ne_of_lt hb) (by rw [hsz]; exact Nat.ne_of_lt (Nat.lt_succ_of_lt hb)) (Heap.get?_push_of_some _ (up b o e))
      · cases r₂ with
        | error e => exact hr₂
        | ok fl₂ =>
          cases fl₂ with
          | next => exact hr₂.elim
          | brk => exact hr₂.elim
          | cont => exact hr₂.elim
          | ret r =>
            obtain ⟨rfl, h', tk, rfl, S', k⟩ := hr₂
            repeat (any_goals (first | assumption | wp_step))
            exact h led h' tk S' k
end
end L2

set_option Elab.async false
set_option linter.all false
set_option maxRecDepth 100000
set_option maxHeartbeats 4000000
namespace L2
open PySem PySem.Spec PyProof.Rows PySem.W
theorem refs_of : ∀ {as : List Addr} {its : List Value}, Vals (as.map V.ref) its → its = as.map Value.ref
  | [], _, r => by cases r; rfl
  | a :: as, _, r => by
    cases r with
    | cons r rr =>
      obtain rfl := (show _ = Value.ref a from r)
      rw [refs_of rr]; rfl
/-- a set of n elements at D -/
def setO (D : Addr) (n : Nat) : HO := .ext fun h => ∃ hs t, SetAt h D hs t ∧ hs.size = n
section
variable {X : Cx}
def rSetP (P : Program) (w : World) (K : PySem.W.Frag) : List V → Hp → VK → Prop := fun xs H Q => ∃ (l : Addr) (as : List Addr) (ys : List (Int × Int)) (hsN : Array Int) (tN : Bool → SetTable), xs = [.ref l] ∧ SqL K H l (as.map V.ref) ∧ as.length = ys.length ∧
  (∀ i, i < ys.length → PairAt K H (as.getD i 0) (ys.getD i (0, 0))) ∧ (∀ led, setRun led (ys.map (pairHash P w)) = some (hsN, tN led)) ∧ ∀ D, H D = none → Q (.ref D) (upd H D (setO D hsN.size))
theorem call_setP (hc : X.calm = true) (hu : X.A.units + 8 < cLine) : CallR X (.type "set") (rSetP X.prog X.w X.K) := by
  intro pins s σ H xs us Q I r h
  obtain ⟨l, as, ys, hsN, tN, rfl, hl, hlen, hp, hrun, q⟩ := h
  obtain ⟨u1, rfl, r1⟩ := r.one
  obtain rfl : u1 = Value.ref l := r1
  obtain ⟨its, rv, pl, hz⟩ := I.list hl
  have e := refs_of rv
  subst e
  have hpi : PairsIn s.heap (as.map Value.ref) ys := ⟨by rw [List.length_map, hlen], fun i v hv => by
    rw [List.getElem?_map] at hv
    cases ea : as[i]? with
    | none => rw [ea] at hv; cases hv
    | some a =>
      rw [ea] at hv
      obtain rfl : Value.ref a = v := Option.some.inj hv
      have hi : i < as.length := (List.getElem?_eq_some_iff.mp ea).1
      obtain ⟨o, n, t, u, e1, c, d⟩ := pair_there I (hp i (by omega))
      have eg : as.getD i 0 = a := by rw [List.getD_eq_getElem?_getD, ea]; rfl
      rw [eg] at e1
      exact ⟨a, o, n, t, u, rfl, e1, c, d⟩⟩
  refine set_call (I.ok.hd hc) hu pl.isList hpi hrun fun led h' tk S' k => ?_
  refine ⟨.ref s.heap.objs.size, _, I.laidN (t' := tk) (o := setO s.heap.objs.size hsN.size) (fun b u e => k b u (Heap.lt_size e) e) (Heap.get?_none_of_le (Nat.le_refl _)) ⟨⟨hsN, _, S', rfl⟩, ?_, fun h1 h2 ⟨hs, t, ⟨o, es, ep, q1, q2⟩, z⟩ kk => ⟨hs, t, ⟨o, es, ep, kk o q1, q2⟩, z⟩⟩, rfl, q _ I.fresh⟩
  obtain ⟨o, _, _, q1, _⟩ := S'
  exact ⟨o, q1⟩
theorem call_lenSet : CallR X (.builtin "len") (fun xs H Q => ∃ D n, xs = [.ref D] ∧ H D = some (setO D n) ∧ n ≤ 4096 ∧ Q (.int n) H) := by
  intro pins s σ H xs us Q I r h
  obtain ⟨D, n, rfl, e, hn, q⟩ := h
  obtain ⟨u1, rfl, r1⟩ := r.one
  obtain rfl : u1 = Value.ref D := r1
  obtain ⟨⟨hs, t, ⟨o, es, ep, q1, q2, q3, q4, q5, q6⟩, z⟩, _⟩ := (show ObjOk X.prog X.w H s.heap D (setO D n) from I.hok D _ e)
  have hsz : es.size = n := by rw [← z, ← q5, Array.size_map]
  exact call_len_set q1 ⟨q2, q3.1, q3.2⟩ q4 q6 (by rw [hsz]; omega) ⟨.int n, H, I.tok _, ⟨_, by rw [hsz]⟩, q⟩

/-! ### a range as a value, its list -/
theorem call_rangeV : CallR X (.type "range") (fun xs H Q => ∃ n, xs = [.int n] ∧ ∀ p, H p = none → Q (.ref p) (upd H p (.rng 0 n))) := by
  intro pins s σ H xs us Q I r h
  obtain ⟨n, rfl, q⟩ := h
  obtain ⟨u1, rfl, t, rfl⟩ := r.one
  refine call_range_1 ⟨.ref s.heap.objs.size, _, I.laid (o := .rng 0 n) (fun b u e => Heap.get?_push_of_some _ e) (Nat.le_refl _) ⟨_, _, _, Heap.get?_push_size _ rfl⟩, rfl, q _ I.fresh⟩
theorem call_listR (hc : X.calm = true) : CallR X (.type "list") (fun xs H Q => ∃ (p : Addr) (n : Nat), xs = [.ref p] ∧ H p = some (.rng 0 n) ∧ n ≤ 1000 ∧ ∀ l, H l = none → Q (.ref l) (upd H l (.lst ((List.range n).map fun (i : Nat) => V.int i)))) := by
  intro pins s σ H xs us Q I r h
  obtain ⟨p, n, rfl, e, hn, q⟩ := h
  obtain ⟨u1, rfl, r1⟩ := r.one
  obtain rfl : u1 = Value.ref p := r1
  obtain ⟨t, u, v, hp⟩ := (show ObjOk X.prog X.w H s.heap p (.rng 0 n) from I.hok p _ e)
  refine call_list_range (n := n) (I.ok.hd hc) (show IsRange s.heap p 0 n 1 t u v from hp) (small_one (by omega) (by omega) (by omega) (by omega)) (by rw [rangeSize_one]; split <;> omega) (by omega) fun h' tk acc c k g it => ?_
  obtain ⟨i1, i2⟩ := it
  refine ⟨.ref s.heap.objs.size, _, I.laidN (t' := tk) (o := .lst ((List.range n).map fun (i : Nat) => V.int i)) (fun b u e => k b u e) (Heap.get?_none_of_le (Nat.le_refl _)) ⟨?_, acc.toList, c, ?_, by simpa using g⟩, rfl, q _ I.fresh⟩
  · rw [List.length_map, List.length_range]
    exact Nat.le_trans hn (by decide)
  · have go : ∀ (m : Nat) (l : List Value), l.length = m → (∀ (j : Nat) v, l[j]? = some v → ∃ t, v = Value.int (0 + (j : Int) * 1) t) → Vals ((List.range m).map fun (i : Nat) => V.int i) l := by
      intro m
      induction m with
      | zero => intro l hl _; cases l with
        | nil => exact .nil
        | cons _ _ => cases hl
      | succ m ih =>
        intro l hl hv
        have hne : l ≠ [] := by intro z; rw [z] at hl; cases hl
        have el : l = l.dropLast ++ [l.getLast hne] := (List.dropLast_concat_getLast hne).symm
        rw [List.range_succ, List.map_append, el]
        have hdl : l.dropLast.length = m := by rw [List.length_dropLast, hl]; rfl
        refine Vals.append (ih _ hdl fun j v hj => hv j v ?_) (.cons ?_ .nil)
        · rw [el]
          have hj' : j < l.dropLast.length := (List.getElem?_eq_some_iff.mp hj).1
          rw [List.getElem?_append_left hj']
          exact hj
        · obtain ⟨t, ht⟩ := hv m (l.getLast hne) (by
            rw [List.getLast_eq_getElem, List.getElem?_eq_getElem (by omega : m < l.length)]
            simp [hl])
          exact ⟨t, by rw [ht]; simp⟩
    exact go n acc.toList (by simpa using i1) fun j v hj => i2 j v (by simpa using hj)
end
end L2

set_option Elab.async false
set_option linter.all false
set_option maxRecDepth 100000
set_option maxHeartbeats 4000000
namespace L2
open PySem PySem.Spec PyProof.Rows PySem.W
/-! ### == and != of two lists -/
def allEq (e : V → V → Bool) : List V → List V → Bool
  | [], [] => true
  | x :: xs, y :: ys => e x y && allEq e xs ys
  | _, _ => false
theorem allEq_range {e : V → V → Bool} : ∀ {xs ys : List V}, xs.length = ys.length → allEq e xs ys = (List.range xs.length).all fun i => e (xs.getD i .non) (ys.getD i .non)
  | [], [], _ => rfl
  | x :: xs, y :: ys, h => by
    have h' : xs.length = ys.length := by simpa using h
    rw [allEq, allEq_range h', List.length_cons, List.range_succ_eq_map, List.all_cons, List.all_map]
    rfl
  | [], _ :: _, h => by simp at h
  | _ :: _, [], h => by simp at h
theorem allEq_len {e : V → V → Bool} : ∀ {xs ys : List V}, xs.length ≠ ys.length → allEq e xs ys = false
  | [], [], h => absurd rfl h
  | x :: xs, y :: ys, h => by
    have h' : xs.length ≠ ys.length := fun z => h (by simp [z])
    rw [allEq, allEq_len h', Bool.and_false]
  | [], _ :: _, _ => rfl
  | _ :: _, [], _ => rfl
section
variable {X : Cx}
/-- the items' own answers, in this heap -/
def ElEq (X : Cx) (H : Hp) (e : V → V → Bool) (x y : V) : Prop := ∀ (pins : List (Addr × Obj)) (s : Shared) (σ : St) (A : Around) (u v : Value), Inv X pins σ H s → A.units + 1 < cLine → RelV x u → RelV y v → SeqAt.EqAt A s u v (e x y)
theorem elEq_flat {H : Hp} {x y : V} (fx : flatV x = true) (fy : flatV y = true) : ElEq X H eqV x y := fun _ _ _ _ _ _ _ _ rx ry => eqAt_V rx ry fx fy
def rLEq (X : Cx) (neg : Bool) (e : V → V → Bool) : R2 := fun x y H Q => ∃ p q xs ys, x = .ref p ∧ y = .ref q ∧ SqL X.K H p xs ∧ SqL X.K H q ys ∧ (∀ i, i < xs.length → i < ys.length → ElEq X H e (xs.getD i .non) (ys.getD i .non)) ∧ Q (.bl (if neg then !allEq e xs ys else allEq e xs ys)) H
theorem items_eq {pins : List (Addr × Obj)} {s : Shared} {σ : St} {H : Hp} {A : Around} {e : V → V → Bool} {xs ys : List V} {us vs : List Value} (I : Inv X pins σ H s) (hu : A.units + 1 < cLine) (rx : Vals xs us) (ry : Vals ys vs)
    (he : ∀ i, i < xs.length → i < ys.length → ElEq X H e (xs.getD i .non) (ys.getD i .non)) : ∀ j (h1 : j < us.toArray.size) (h2 : j < vs.toArray.size), SeqAt.EqAt A s us.toArray[j] vs.toArray[j] (e (xs.getD j .non) (ys.getD j .non)) := by
  intro j h1 h2
  have j1 : j < xs.length := by rw [rx.length]; simpa using h1
  have j2 : j < ys.length := by rw [ry.length]; simpa using h2
  have e1 : xs[j]? = some (xs.getD j .non) := by rw [List.getD_eq_getElem?_getD, List.getElem?_eq_getElem j1]; rfl
  have e2 : ys[j]? = some (ys.getD j .non) := by rw [List.getD_eq_getElem?_getD, List.getElem?_eq_getElem j2]; rfl
  obtain ⟨u, hu1, ru⟩ := rx.get e1
  obtain ⟨v, hv1, rv⟩ := ry.get e2
  have eu : us.toArray[j] = u := by
    have : us[j]? = some us.toArray[j] := by simp at h1 ⊢
    rw [hu1] at this; exact (Option.some.inj this).symm
  have ev : vs.toArray[j] = v := by
    have : vs[j]? = some vs.toArray[j] := by simp at h2 ⊢
    rw [hv1] at this; exact (Option.some.inj this).symm
  rw [eu, ev]
  exact he j j1 j2 pins s σ A u v I hu ru rv
theorem op_neL {e : V → V → Bool} (hu : X.A.units + 2 < cLine) : OpR X (compareOp .NotEq) (rLEq X true e) := by
  intro pins s σ H x y v u Q I rx ry h
  obtain ⟨p, q, xs, ys, rfl, rfl, hp, hq, he, k⟩ := h
  obtain rfl : v = Value.ref p := rx
  obtain rfl : u = Value.ref q := ry
  obtain ⟨us, r1, p1, _⟩ := I.list hp
  obtain ⟨vs, r2, p2, _⟩ := I.list hq
  by_cases hl : xs.length = ys.length
  · refine SeqAt.RcNeAt.lists (e := fun i => e (xs.getD i .non) (ys.getD i .non)) p1.isList p2.isList (by simp only [List.size_toArray]; rw [← r1.length, ← r2.length]; exact hl) (by omega) (items_eq I (by show X.A.units + 1 + 1 < cLine; omega) r1 r2 he) _ _ _ _ ⟨.bl _, H, I, rfl, ?_⟩
    rw [show us.toArray.size = xs.length by rw [List.size_toArray, r1.length], ← allEq_range hl]
    exact k
  · refine SeqAt.RcNeAt.lists_lengths p1.isList p2.isList (by simp only [List.size_toArray]; rw [← r1.length, ← r2.length]; simpa using hl) (by omega) _ _ _ _ ⟨.bl _, H, I, rfl, ?_⟩
    have k' := k
    rw [allEq_len hl] at k'
    exact k'
theorem op_eqL {e : V → V → Bool} (hu : X.A.units + 2 < cLine) : OpR X (compareOp .Eq) (rLEq X false e) := by
  intro pins s σ H x y v u Q I rx ry h
  obtain ⟨p, q, xs, ys, rfl, rfl, hp, hq, he, k⟩ := h
  obtain rfl : v = Value.ref p := rx
  obtain rfl : u = Value.ref q := ry
  obtain ⟨us, r1, p1, _⟩ := I.list hp
  obtain ⟨vs, r2, p2, _⟩ := I.list hq
  by_cases hl : xs.length = ys.length
  · refine SeqAt.eq_listAt (e := fun i => e (xs.getD i .non) (ys.getD i .non)) p1.isList p2.isList (by simp only [List.size_toArray]; rw [← r1.length, ← r2.length]; exact hl) (by omega) (items_eq I (by show X.A.units + 1 + 1 < cLine; omega) r1 r2 he) ⟨.bl _, H, I, rfl, ?_⟩
    rw [show us.toArray.size = xs.length by rw [List.size_toArray, r1.length], ← allEq_range hl]
    exact k
  · refine SeqAt.eq_list_lengthsAt p1.isList p2.isList (by simp only [List.size_toArray]; rw [← r1.length, ← r2.length]; simpa using hl) (by omega) ⟨.bl _, H, I, rfl, ?_⟩
    have k' := k
    rw [allEq_len hl] at k'
    exact k'
/-- two pairs -/
theorem elEq_pair {H : Hp} {a b : Addr} {y z : Int × Int} {e : V → V → Bool} (ha : PairAt X.K H a y) (hb : PairAt X.K H b z) (he : e (.ref a) (.ref b) = decide (y = z)) : ElEq X H e (.ref a) (.ref b) := by
  intro pins s σ A u v I hu rx ry
  obtain rfl : u = Value.ref a := rx
  obtain rfl : v = Value.ref b := ry
  rw [he]
  by_cases hab : a = b
  · subst hab
    have e1 := I.tuple_inj ha hb
    have e2 : y = z := by
      have h1 : V.int y.1 = V.int z.1 := by injection e1
      have h2 : [V.int y.2] = [V.int z.2] := by injection e1
      have h3 : V.int y.2 = V.int z.2 := by injection h2
      injection h1 with h1
      injection h3 with h3
      exact Prod.ext h1 h3
    rw [decide_eq_true e2]
    exact SeqAt.EqAt.same _
  · obtain ⟨o, n, t, t', e1, c, d⟩ := pair_there I ha
    obtain ⟨o2, n2, t2, t2', e2, c2, d2⟩ := pair_there I hb
    have h := SeqAt.RcAt.tuples (A := A) (s := s) (l := a) (b := b) (e := fun j => if j = 0 then y.1 == z.1 else y.2 == z.2) (show s.heap.IsTuple a _ from ⟨o, e1, c, n, d⟩) (show s.heap.IsTuple b _ from ⟨o2, e2, c2, n2, d2⟩) (by omega) (fun j h1 h2 => by
      have hj : j = 0 ∨ j = 1 := by simp at h1; omega
      rcases hj with rfl | rfl
      · exact SeqAt.EqAt.int_int _ _ _ _
      · exact SeqAt.EqAt.int_int _ _ _ _)
    refine SeqAt.EqAt.of_refs hab ?_
    have er : ((List.range (min (#[Value.int y.1 t, Value.int y.2 t'] : Array Value).size (#[Value.int z.1 t2, Value.int z.2 t2'] : Array Value).size)).all (fun j => if j = 0 then y.1 == z.1 else y.2 == z.2) && (#[Value.int y.1 t, Value.int y.2 t'] : Array Value).size == (#[Value.int z.1 t2, Value.int z.2 t2'] : Array Value).size) = decide (y = z) := by
      show ((List.range 2).all (fun j => if j = 0 then y.1 == z.1 else y.2 == z.2) && true) = decide (y = z)
      have : List.range 2 = [0, 1] := rfl
      rw [this]
      simp only [List.all_cons, List.all_nil, if_true, Bool.and_true]
      rw [if_neg (by decide)]
      obtain ⟨y1, y2⟩ := y
      obtain ⟨z1, z2⟩ := z
      by_cases h1 : y1 = z1 <;> by_cases h2 : y2 = z2 <;> simp [h1, h2]
    rw [er] at h
    exact h

/-! ### any, join -/
theorem call_anyB (hc : X.calm = true) : CallR X (.builtin "any") (fun xs H Q => ∃ (p : Addr) (bs : List Bool), xs = [.ref p] ∧ SqL X.K H p (bs.map V.bl) ∧ Q (.bl (bs.any id)) H) := by
  intro pins s σ H xs us Q I r h
  obtain ⟨p, bs, rfl, hp, q⟩ := h
  obtain ⟨u1, rfl, r1⟩ := r.one
  obtain rfl : u1 = Value.ref p := r1
  obtain ⟨its, rv, pl, hz⟩ := I.list hp
  have hits : its = bs.map Value.bool := by
    have go : ∀ (bs : List Bool) (its : List Value), Vals (bs.map V.bl) its → its = bs.map Value.bool := by
      intro bs
      induction bs with
      | nil => intro its r; cases r; rfl
      | cons b bs ih =>
        intro its r
        cases r with
        | cons r rr =>
          obtain rfl := (show _ = Value.bool b from r)
          rw [ih _ rr]; rfl
    exact go bs its rv
  subst hits
  obtain ⟨ob, hob, _⟩ := id pl.isList
  have hlt : p < s.heap.objs.size := Heap.lt_size hob
  refine call_any_walk (wpAny_pyIter_list pl.isList ⟨s.heap.objs.size, _, _, _, _, _, fun i => bs.getD i false, rfl, Walks.list (show X.A.in1.handled = none from I.ok.hd hc) _ p (Nat.ne_of_lt hlt) _, ⟨⟨_, Heap.get?_push_size _ rfl, rfl, rfl⟩, pl.isList.push _⟩, fun i v s1 Q' E' hv hq => ?_, fun h' tk k => ?_⟩)
  · have hv' : (bs.map Value.bool)[i]? = some v := by simpa using hv
    rw [List.getElem?_map] at hv'
    cases eb : bs[i]? with
    | none => rw [eb] at hv'; cases hv'
    | some b =>
      rw [eb] at hv'
      obtain rfl : Value.bool b = v := Option.some.inj hv'
      have : bs.getD i false = b := by rw [List.getD_eq_getElem?_getD, eb]; rfl
      have hq' : Q' b s1 := by rw [← this]; exact hq
      exact wpAny_pure hq'
  · have keep : ∀ b o, s.heap.get? b = some o → h'.get? b = some o := fun b o e => k b o (by simpa using Nat.ne_of_lt (Heap.lt_size e)) (Heap.get?_push_of_some _ e)
    refine ⟨.bl (bs.any id), H, I.kept (t' := tk) keep, ?_, q⟩
    show Value.bool _ = Value.bool _
    congr 1
    have go : ∀ (bs : List Bool), ((List.range bs.length).any fun i => bs.getD i false) = bs.any id := by
      intro bs
      induction bs with
      | nil => rfl
      | cons b bs ih =>
        rw [List.length_cons, List.range_succ_eq_map, List.any_cons, List.any_map, List.any_cons, ← ih]
        rfl
    rw [← go bs]
    simp
theorem mt_join : MtR X "str.join" (fun x vs H Q => ∃ (z : Str) (p : Addr) (zs : List Str), x = .str z ∧ vs = [.ref p] ∧ SqL X.K H p (zs.map V.str) ∧ (zs.map (·.length)).sum + zs.length * z.length ≤ 16777216 ∧ Q (.str (Txt.join z zs)) H) := by
  intro pins s σ H x xs v us Q I rx r h
  obtain ⟨z, p, zs, rfl, rfl, hp, hz, q⟩ := h
  obtain ⟨t, rfl⟩ := rx
  obtain ⟨u1, rfl, r1⟩ := r.one
  obtain rfl : u1 = Value.ref p := r1
  obtain ⟨its, rv, pl, _⟩ := I.list hp
  have ss : StrsAre its zs := by
    have go : ∀ (zs : List Str) (its : List Value), Vals (zs.map V.str) its → StrsAre its zs := by
      intro zs
      induction zs with
      | nil => intro its r; cases r; exact .nil
      | cons b bs ih =>
        intro its r
        cases r with
        | cons r rr =>
          obtain ⟨t, rfl⟩ := r
          exact .cons _ _ (ih _ rr)
    exact go zs its rv
  exact join_list pl.isList (by simpa using ss) hz fun t' k => ⟨.str _, H, I.tok k, ⟨_, rfl⟩, q⟩
end
end L2

set_option Elab.async false
set_option linter.all false
set_option maxRecDepth 100000
set_option maxHeartbeats 4000000
namespace L2
open PySem PySem.Spec PyProof.Rows

/-! ### a lambda as a value -/
/-- the code object of a lambda that was made -/
def codeO (c : Addr) (qual : Str) : HO := .ext fun h => h.CodeRec (.ref c) qual
theorem codeO_ok {P : Program} {w : World} {H : Hp} {h : Heap} {c : Addr} {qual : Str} (x : h.CodeRec (.ref c) qual) : ObjOk P w H h c (codeO c qual) := by
  refine ⟨x, ?_, ?_⟩
  · obtain ⟨c', o, vs, t, e, ho, _⟩ := x
    cases e; exact ⟨o, ho⟩
  · rintro h1 h2 ⟨c', o, vs, t, e, ho, r⟩ k
    cases e; exact ⟨c, o, vs, t, rfl, k o ho, r⟩
theorem codeO_rec {P : Program} {w : World} {H : Hp} {h : Heap} {c : Addr} {qual : Str} (x : ObjOk P w H h c (codeO c qual)) : h.CodeRec (.ref c) qual := x.1
/-- a lambda's function object: its free names are cells of those around -/
def lamIs (f : Addr) (qual : Str) (params : Arguments) (body : Expr) (scope : Scope) (cells : List (Str × Addr)) (c : Addr) (h : Heap) : Prop :=
  ∃ (clos : List (Str × Addr)) (pm ctv : Value), (∀ x a, clos.lookup x = some a → cells.lookup x = some a) ∧ (∀ x, (x, NameKind.free) ∈ scope.names → ∃ a, clos.lookup x = some a) ∧
    h.get? f = some (PySem.W.kla_obj "<lambda>" qual params body scope clos pm c ctv)
def lamO (f : Addr) (qual : Str) (params : Arguments) (body : Expr) (scope : Scope) (cells : List (Str × Addr)) (c : Addr) : HO := .ext (lamIs f qual params body scope cells c)
theorem lamO_ok {P : Program} {w : World} {H : Hp} {h : Heap} {f : Addr} {qual : Str} {params : Arguments} {body : Expr} {scope : Scope} {cells : List (Str × Addr)} {c : Addr} (x : lamIs f qual params body scope cells c h) :
    ObjOk P w H h f (lamO f qual params body scope cells c) := by
  refine ⟨x, ?_, ?_⟩
  · obtain ⟨_, _, _, _, _, e⟩ := x
    exact ⟨_, e⟩
  · rintro h1 h2 ⟨clos, pm, ctv, a, b, e⟩ k
    exact ⟨clos, pm, ctv, a, b, k _ e⟩
/-- the table of the def in which the lambda stands: empty, or the lambda's code is in it -/
def TabAt (lp : Pos) (qual : Str) (P : Addr) (H : Hp) : Prop := H P = some (.tbl #[]) ∨ ∃ c, H P = some (.tbl #[rawInt lp.line, rawInt lp.col, .ref c]) ∧ H c = some (codeO c qual)

structure LamC (X : Cx) (c P : Addr) : Prop where
  code : X.env.code = .ref c
  hd : PySem.W.CodeHd X.base c P
  bm : ∃ bm o, X.mg "__builtins__" = some (.ref bm) ∧ bm ≠ builtinsNs ∧ bm ≠ mainGlobals ∧ X.base.get? bm = some o ∧ o.cls = .type "module" ∧ o.dict = some builtinsNs ∧ o.data = .plain

def tLam (lp : Pos) (qual : Str) (P : Addr) (params : Arguments) (body : Expr) (scope : Scope) (cells : List (Str × Addr)) : TE := fun _ H Q => TabAt lp qual P H ∧
  ∀ (f c : Addr) (H2 : Hp), TabAt lp qual P H2 → (∀ b o, H b = some o → b ≠ P → H2 b = some o) → H2 c = some (codeO c qual) → H2 f = some (lamO f qual params body scope cells c) → Q (.ref f) H2

theorem triples_one {lp : Pos} {c : Addr} : TriplesOk (#[rawInt lp.line, rawInt lp.col, .ref c] : Array Value).toList := trivial
theorem among_one {lp : Pos} {c : Addr} : codeAmong lp (#[rawInt lp.line, rawInt lp.col, .ref c] : Array Value).toList = some (.ref c) := by
  show (if ((lp.line : Int) == (lp.line : Int) && (lp.col : Int) == (lp.col : Int)) = true then some (Value.ref c) else _) = _
  simp

section
variable {X : Cx} {c P : Addr} {params : Arguments} {body : Expr} {scope : Scope} {lp : Pos} {NB : List Str} {src : List (Option Nat)}
theorem LamC.at (C : LamC X c P) {pins : List (Addr × Obj)} {σ : St} {H : Hp} {s : Shared} {ps : Array Value} (I : Inv X pins σ H s) (hP : H P = some (.tbl ps)) : s.heap.BuiltinsAt X.mg P := by
  obtain ⟨bm, o, b1, b2, b3, b4, b5, b6, b7⟩ := C.bm
  refine ⟨bm, o, b1, b2, b3, fun z => ?_, I.bk _ _ b4, b5, b6, b7⟩
  have := (I.bs _ _ b4).2
  rw [z, hP] at this; cases this
theorem Inv.globs {pins : List (Addr × Obj)} {σ : St} {H : Hp} {s : Shared} (I : Inv X pins σ H s) : s.heap.Ns mainGlobals X.mg := I.mod.glob.keeps I.bk
theorem pe_lam (C : LamC X c P) (S : BlkScope NB src scope X) (hdef : defaultsOf params X.env = ([], []) := by rfl) : PE X (.Lambda params body scope lp) (tLam lp (X.env.qual ++ "<lambda>") P params body scope X.env.cells) := by
  intro pins s σ H Q I h
  obtain ⟨tab, h⟩ := h
  obtain ⟨clos, ecl, c1, c2⟩ := closure_ex I.ok S
  refine PySem.W.kla_eval hdef ?_
  have hsz : ∀ b o, s.heap.get? b = some o → b < s.heap.objs.size := fun b o e => Heap.lt_size e
  rcases tab with hP | ⟨c', hP, hc'⟩
  · -- the first time
    have hPo : s.heap.get? P = some (PySem.W.tabObj #[]) := I.hok P _ hP
    have hPL : X.env.locals ≠ P := fun z => by have f := I.free; rw [z, hP] at f; cases f
    have hPg : mainGlobals ≠ P := fun z => by
      obtain ⟨o, es, ep, e, d, _⟩ := I.mod.glob
      have := (I.bs _ _ e).2
      rw [z, hP] at this; cases this
    refine PySem.W.kla_makeFunction (mg := X.mg) ecl I.ok.glob I.globs C.code (C.hd.keeps I.bk) hPo (by trivial) rfl hPg (C.at I hP) fun c' ctv h' tk hx hge hlt hrec htb => ?_
    have hgt : ∀ b o, b ≠ P → s.heap.get? b = some o → (h'.push (PySem.W.kla_obj "<lambda>" (X.env.qual ++ "<lambda>") params body scope clos ((X.mg "__name__").getD .none) c' ctv)).get? b = some o := fun b o hb e => Heap.get?_push_of_some _ (hx b o hb e)
    have hcP : c' ≠ P := Nat.ne_of_gt (Nat.lt_of_lt_of_le (hsz _ _ hPo) hge)
    have hfP : h'.objs.size ≠ P := Nat.ne_of_gt (Nat.lt_of_lt_of_le (hsz _ _ hPo) (Nat.le_trans hge (Nat.le_of_lt hlt)))
    have hfc : h'.objs.size ≠ c' := Nat.ne_of_gt hlt
    have nf : H h'.objs.size = none := I.hok.fresh (by omega)
    have nc : H c' = none := I.hok.fresh hge
    let H2 : Hp := upd (upd (upd H P (.tbl #[rawInt lp.line, rawInt lp.col, .ref c'])) c' (codeO c' (X.env.qual ++ "<lambda>"))) h'.objs.size (lamO h'.objs.size (X.env.qual ++ "<lambda>") params body scope X.env.cells c')
    have eP : H2 P = some (.tbl #[rawInt lp.line, rawInt lp.col, .ref c']) := by
      show upd _ _ _ _ = _
      rw [upd_ne hfP.symm, upd_ne hcP.symm, upd_same]
    have ec : H2 c' = some (codeO c' (X.env.qual ++ "<lambda>")) := by
      show upd _ _ _ _ = _
      rw [upd_ne hfc.symm, upd_same]
    have ef : H2 h'.objs.size = some (lamO h'.objs.size (X.env.qual ++ "<lambda>") params body scope X.env.cells c') := upd_same
    have eo : ∀ b, b ≠ P → b ≠ c' → b ≠ h'.objs.size → H2 b = H b := fun b h1 h2 h3 => by
      show upd _ _ _ _ = _
      rw [upd_ne h3, upd_ne h2, upd_ne h1]
    have old : ∀ b o, H b = some o → b ≠ P → H2 b = some o := fun b o e hb => by
      rw [eo b hb (ne_of_none e nc) (ne_of_none e nf)]; exact e
    have I2 : Inv X pins σ H2 { s with heap := h'.push (PySem.W.kla_obj "<lambda>" (X.env.qual ++ "<lambda>") params body scope clos ((X.mg "__name__").getD .none) c' ctv), toks := tk } := by
      refine I.step (g' := s.gens) (d' := s.drawn) (ch := []) (fun _ z => absurd z (by simp)) (fun b o _ _ _ e n => hgt b o (fun z => by rw [z, hP] at n; cases n) e) (fun b o _ _ _ e n => ⟨o.slots, hgt b o (fun z => by rw [z, hP] at n; cases n) e⟩)
        (fun b o _ e n => ?_) (fun b o _ e => ?_) (fun b xs e => old b _ e fun z => by rw [z, hP] at e; cases e) (fun b o u e => old b _ e fun z => by rw [z, hP] at e; cases e) (fun b ps e => ?_) (fun m hm => ?_) (fun b o e => ?_) I.bare
      · rw [eo b (fun z => by rw [z, hP] at n; cases n) (Nat.ne_of_lt (Nat.lt_of_lt_of_le (hsz b o e) hge)) (Nat.ne_of_lt (Nat.lt_of_lt_of_le (hsz b o e) (Nat.le_trans hge (Nat.le_of_lt hlt))))]
        exact n
      · by_cases hb : b = P
        · exact ⟨_, by rw [hb]; exact Heap.get?_push_of_some _ htb⟩
        · exact ⟨o, hgt b o hb e⟩
      · by_cases hb : b = P
        · rw [hb] at e ⊢
          rw [hP] at e; cases e
          exact ⟨#[rawInt lp.line, rawInt lp.col, .ref c'], by rw [eP]; simp⟩
        · exact ⟨#[], by rw [old b _ e hb]; simp⟩
      · exact (hm.extBut hx hPL).push _
      · by_cases hbf : b = h'.objs.size
        · subst hbf
          rw [ef] at e; cases e
          exact lamO_ok ⟨clos, _, ctv, c1, c2, Heap.get?_push_size _ rfl⟩
        · by_cases hbc : b = c'
          · subst hbc
            rw [ec] at e; cases e
            refine codeO_ok ?_
            obtain ⟨c₂, oc, vs, t, e2, hoc, r⟩ := hrec
            exact ⟨c₂, oc, vs, t, e2, Heap.get?_push_of_some _ hoc, r⟩
          · by_cases hbP : b = P
            · subst hbP
              rw [eP] at e; cases e
              exact Heap.get?_push_of_some _ htb
            · rw [eo b hbP hbc hbf] at e
              refine (I.hok b o e).stay (fun d u hd q => hgt d u ?_ q) (fun d q => old d _ q fun z => by rw [z, hP] at q; cases q) fun d xs q => old d _ q fun z => by rw [z, hP] at q; cases q
              rintro rfl
              rcases hd with z | z
              · exact hbP z.symm
              · rw [hP] at z; cases z
    exact ⟨.ref h'.objs.size, H2, I2, rfl, h _ c' H2 (.inr ⟨c', eP, ec⟩) old ec ef⟩
  · -- again
    have hPo : s.heap.get? P = some (PySem.W.tabObj #[rawInt lp.line, rawInt lp.col, .ref c']) := I.hok P _ hP
    refine PySem.W.kla_makeFunctionHit (mg := X.mg) ecl I.ok.glob I.globs C.code (C.hd.keeps I.bk) hPo triples_one among_one (C.at I hP) fun ctv h' tk hk hge => ?_
    have nf : H h'.objs.size = none := I.hok.fresh hge
    let H2 : Hp := upd H h'.objs.size (lamO h'.objs.size (X.env.qual ++ "<lambda>") params body scope X.env.cells c')
    have ef : H2 h'.objs.size = some (lamO h'.objs.size (X.env.qual ++ "<lambda>") params body scope X.env.cells c') := upd_same
    have old : ∀ b o, H b = some o → H2 b = some o := fun b o e => by
      show upd _ _ _ _ = _
      rw [upd_ne (ne_of_none e nf)]; exact e
    have hgt : ∀ b o, s.heap.get? b = some o → (h'.push (PySem.W.kla_obj "<lambda>" (X.env.qual ++ "<lambda>") params body scope clos ((X.mg "__name__").getD .none) c' ctv)).get? b = some o := fun b o e => Heap.get?_push_of_some _ (hk b o e)
    have I2 : Inv X pins σ H2 { s with heap := h'.push (PySem.W.kla_obj "<lambda>" (X.env.qual ++ "<lambda>") params body scope clos ((X.mg "__name__").getD .none) c' ctv), toks := tk } := by
      refine I.step (g' := s.gens) (d' := s.drawn) (ch := []) (fun _ z => absurd z (by simp)) (fun b o _ _ _ e n => hgt b o e) (fun b o _ _ _ e n => ⟨o.slots, hgt b o e⟩)
        (fun b o _ e n => ?_) (fun b o _ e => ⟨o, hgt b o e⟩) (fun b xs e => old b _ e) (fun b o u e => old b _ e) (fun b ps e => ⟨#[], by rw [old b _ e]; simp⟩) (fun m hm => (hm.keeps hk).push _) (I.hok.laid hgt hge (lamO_ok ⟨clos, _, ctv, c1, c2, Heap.get?_push_size _ rfl⟩)) I.bare
      · show upd _ _ _ _ = _
        rw [upd_ne (Nat.ne_of_lt (Nat.lt_of_lt_of_le (hsz b o e) hge))]
        exact n
    exact ⟨.ref h'.objs.size, H2, I2, rfl, h _ c' H2 (.inr ⟨c', old _ _ hP, old _ _ hc'⟩) (fun b o e _ => old b o e) (old _ _ hc') ef⟩
end
end L2

set_option Elab.async false
set_option linter.all false
set_option maxRecDepth 100000
set_option maxHeartbeats 4000000
namespace L2
open PySem PySem.Spec PyProof.Rows

/-! ### a built-in function called with keywords -/
def CallKR (X : Cx) (id : String) (ks : List Str) (r : St → List V → List V → Hp → VK → Prop) : Prop :=
  ∀ (pins : List (Addr × Obj)) (s : Shared) (σ : St) (H : Hp) (vs zs : List V) (us ws : List Value) (Q : VK), Inv X pins σ H s → Vals vs us → Vals zs ws → r σ vs zs H Q →
    wpAny (model X.prog X.w) X.A (call (.builtin id) us (ks.zip ws)) (EP X pins σ Q) X.xe s
def tCBK (r : St → List V → List V → Hp → VK → Prop) (t tk : TA) : TE := fun σ H Q => t σ H fun vs H1 => tk σ H1 fun zs H2 => r σ vs zs H2 Q
section
variable {X : Cx} {x : Str} {p pos : Pos} {e : Expr} {es : List Expr} {kws : List Keyword} {t tk : TA} {id : String} {ks : List Str} {r : St → List V → List V → Hp → VK → Prop}
theorem pe_callBK (hc : CallKR X id ks r) (hg : Gl X x) (hm : X.mg x = none) (hv : bootBuiltins x = some (.builtin id)) (ha : PA X (e :: es) t) (hkw : PK X kws tk) (hn : x ≠ "__name__" := by decide) (hdb : (x == ("__debug__" : Str)) = false := by decide)
    (hks : (backToKw pos (keywordEach kws X.env)).filterMap (·.1) = ks := by rfl)
    (he : backTo pos (starEach (e :: es) X.env) = (false, eval e X.env) :: backTo pos (starEach es X.env) := by rfl)
    (hplain : (backTo pos (starEach (e :: es) X.env)).any (·.1) = false := by rfl)
    (hall : (backToKw pos (keywordEach kws X.env)).all (·.1.isSome) = true := by rfl)
    (hno : (backToKw pos (keywordEach kws X.env)).any (·.1.isNone) = false := by rfl) : PE X (.Call (.Name x p) (e :: es) kws pos) (tCBK r t tk) := by
  intro pins s σ H Q I h
  refine wpAny_Call_Name_kw (ld_blt I hg hm hv ?_ hn hdb)
  refine PyProof.Rows.callWith_kw (thn (ha pos pins s σ H _ I h) fun us s1 ⟨vs, H1, I1, r1, q1⟩ => ?_) he hplain hall hno
  refine thn (hkw pos pins s1 σ H1 _ I1 q1) fun ws s2 ⟨zs, H2, I2, rz, q2⟩ => ?_
  rw [hks]
  exact hc pins s2 σ H2 vs zs us ws Q I2 r1 rz q2
end

/-! ### sorted(xs, key=lambda y: (y - a) % b), of fewer than 64 ints -/
def KOut (za zb : Int) (ns out : List Int) : Prop := ∃ ps : List (Int × Int), ps.Perm (ns.map fun z => ((z - za) % zb, z)) ∧ out = ps.map (·.2) ∧ ps.Pairwise fun p q => p.1 ≤ q.1
def rSortK (X : Cx) (qual : Str) (params : Arguments) (body : Expr) (scope : Scope) (ia ib : Nat) : St → List V → List V → Hp → VK → Prop := fun σ vs zs H Q =>
  ∃ (l f c : Addr) (ns : List Int) (za zb : Int), vs = [.ref l] ∧ zs = [.ref f] ∧ SqL X.K H l (ns.map V.int) ∧ ns.length < 64 ∧ H f = some (lamO f qual params body scope X.env.cells c) ∧ H c = some (codeO c qual) ∧
    σ[ia]? = some (some (.int za)) ∧ σ[ib]? = some (some (.int zb)) ∧ 0 < zb ∧ ∀ (r : Addr) (out : List Int), H r = none → KOut za zb ns out → Q (.ref r) (upd H r (.lst (out.map V.int)))
theorem ints_vals : ∀ {ns : List Int} {vs : List Value}, Vals (ns.map V.int) vs → IntsAre vs ns
  | [], _, .nil => .nil
  | _ :: _, _, .cons ⟨t, e⟩ r => by subst e; exact .cons _ t (ints_vals r)
structure LamS (X : Cx) (qual : Str) (params : Arguments) (body : Expr) (scope : Scope) (y a b : Str) (ia ib : Nat) : Prop where
  bd : ∃ p1 p2 p3 p4 p5, body = .BinOp (.BinOp (.Name y p1) .Sub (.Name a p2) p3) .Mod (.Name b p4) p5
  bind : ∀ clos pm c ctv v, bindArgs (PySem.W.kla_fn "<lambda>" qual params body scope clos pm (.ref c) ctv) ⟨[v], []⟩ = pure [(y, v)]
  na : X.N[ia]? = some a
  nb : X.N[ib]? = some b
  ca : X.env.scope.names.lookup a = some .cell
  cb : X.env.scope.names.lookup b = some .cell
  ly : scope.names.lookup y = some .local
  fa : scope.names.lookup a = some .free
  fb : scope.names.lookup b = some .free
  ma : (a, NameKind.free) ∈ scope.names
  mb : (b, NameKind.free) ∈ scope.names
  nocell : ∀ z ∈ scope.names, z.2 ≠ .cell
  kind : scope.kind = .function
  co : scope.isCoroutine = false
  gen : scope.isGenerator = false
  dy : (y == ("__debug__" : Str)) = false
  da : (a == ("__debug__" : Str)) = false ∧ (a == ("__classdict__" : Str)) = false
  db : (b == ("__debug__" : Str)) = false ∧ (b == ("__classdict__" : Str)) = false
theorem call_sortK {X : Cx} {qual : Str} {params : Arguments} {body : Expr} {scope : Scope} {y a b : Str} {ia ib k : Nat} (S : LamS X qual params body scope y a b ia ib) (hr : Room k X.A) :
    CallKR X "sorted" ["key"] (rSortK X qual params body scope ia ib) := by
  intro pins s σ H vs zs us ws Q I r rz h
  obtain ⟨l, f, c, ns, za, zb, rfl, rfl, hl, h64, hf, hc, sa, sb, hb0, q⟩ := h
  obtain ⟨u1, rfl, r1⟩ := r.one
  obtain rfl : u1 = Value.ref l := r1
  obtain ⟨w1, rfl, rw1⟩ := rz.one
  obtain rfl : w1 = Value.ref f := rw1
  obtain ⟨its, rv, pl, hz⟩ := I.list hl
  have hI := ints_vals rv
  obtain ⟨m, F⟩ := I.fr
  obtain ⟨p1, p2, p3, p4, p5, rfl⟩ := S.bd
  obtain ⟨clos, pm, ctv, c1, c2, hfo⟩ := (I.hok f _ hf).1
  have hcr : s.heap.CodeRec (.ref c) qual := (I.hok c _ hc).1
  -- the cells
  obtain ⟨m', hn', hlk⟩ := I.loc
  have cellA : ∃ ca ta, clos.lookup a = some ca ∧ s.heap.IsCell ca (some (.int za ta)) := by
    obtain ⟨u, ⟨ta, rfl⟩, lk⟩ := hlk ia a (.int za) S.na sa (.inr (.inl S.ca))
    obtain ⟨ca, e1⟩ := c2 a S.ma
    rcases lk with ⟨z, _⟩ | ⟨_, ca', e2, e3⟩
    · have z' : X.env.scope.names.lookup a = some .local := z
      rw [S.ca] at z'; cases z'
    · have e4 := c1 a ca e1
      rw [e2] at e4; cases e4
      exact ⟨ca, ta, e1, e3⟩
  have cellB : ∃ cb tb, clos.lookup b = some cb ∧ s.heap.IsCell cb (some (.int zb tb)) := by
    obtain ⟨u, ⟨tb, rfl⟩, lk⟩ := hlk ib b (.int zb) S.nb sb (.inr (.inl S.cb))
    obtain ⟨cb, e1⟩ := c2 b S.mb
    rcases lk with ⟨z, _⟩ | ⟨_, cb', e2, e3⟩
    · have z' : X.env.scope.names.lookup b = some .local := z
      rw [S.cb] at z'; cases z'
    · have e4 := c1 b cb e1
      rw [e2] at e4; cases e4
      exact ⟨cb, tb, e1, e3⟩
  obtain ⟨ca, ta, ea, ha⟩ := cellA
  obtain ⟨cb, tb, eb, hb⟩ := cellB
  have noL : ∀ b' (o : Obj), s.heap.get? b' = some o → (∀ es ep, o.data ≠ .dict es ep) → b' ≠ X.env.locals := fun b' o e d z => by
    obtain ⟨o', es, ep, e', d', _⟩ := F.ns
    rw [z, e'] at e; cases e
    exact d _ _ d'
  have len : (ns.map fun z => (z - za) % zb).length = its.length := by rw [List.length_map, hI.length]
  refine ksk_sorted (b := false) (f := .ref f) (kz := ns.map fun z => (z - za) % zb) F news_all pl.isList len (by rw [hI.length]; exact h64) (ksk_s1 _ _) (fun x => ksk_l1 _ _) (fun x => ksk_t1 _ _) ?_ ?_
  · -- one key
    intro i v k hv hk h tk own F' N'
    have at_ : ∀ b' u, b' ≠ X.env.locals → s.heap.get? b' = some u → h.get? b' = some u := fun b' u hne e => by
      cases z : X.base.get? b' with
      | some o =>
        have := I.bk b' o z
        rw [e] at this; cases this
        exact F'.keep b' _ z
      | none => exact (N' (b', u) (List.mem_append_left _ (mem_allNews hne z e))).1
    have hfo' := at_ f _ (noL f _ hfo (by intro es ep z; cases z)) hfo
    have hcr' : h.CodeRec (.ref c) qual := by
      obtain ⟨c0, o, vs0, t0, e0, ho, hd, hv0⟩ := hcr
      refine ⟨c0, o, vs0, t0, e0, at_ _ _ (noL _ _ ho (by rw [hd]; intro es ep z; cases z)) ho, hd, hv0⟩
    have ha' : h.IsCell ca (some (.int za ta)) := by
      obtain ⟨o, ho, hd⟩ := ha
      exact ⟨o, at_ _ _ (noL _ _ ho (by rw [hd]; intro es ep z; cases z)) ho, hd⟩
    have hb' : h.IsCell cb (some (.int zb tb)) := by
      obtain ⟨o, ho, hd⟩ := hb
      exact ⟨o, at_ _ _ (noL _ _ ho (by rw [hd]; intro es ep z; cases z)) ho, hd⟩
    obtain ⟨z, tz, rfl, rfl⟩ : ∃ z tz, v = .int z tz ∧ k = (z - za) % zb := by
      obtain ⟨n, t, e⟩ := hI.all v (List.mem_of_getElem? hv)
      refine ⟨n, t, e, ?_⟩
      rw [List.getElem?_map] at hk
      have hn := hI.nums
      have e1 : (its.map numOf)[i]? = some n := by rw [List.getElem?_map, hv, e]; rfl
      rw [hn] at e1
      rw [e1] at hk
      exact (Option.some.inj hk).symm
    have hroom : X.A.in1.in1.depth < recursionLimit := by
      have := hr.dp
      show X.A.depth < _
      omega
    refine wpAny_call (PySem.W.kla_callFunE hroom hfo' rfl S.co S.gen rfl hcr' ?_)
    rw [S.bind]
    refine wpAny_pure (wpAny_newFunctionEnv S.nocell (fun x hx => by rw [List.mem_singleton.mp hx]; exact S.ly) (fun h₁ hns hsb => ⟨((I.ok.mod.nolimit).keeps F'.keep).fresh _ hsb, ?_⟩) S.kind)
    have hk₁ : ∀ b o, h.get? b = some o → h₁.get? b = some o := fun b o e => hsb.extBut b o (Nat.ne_of_lt (Heap.lt_size e)) (Heap.get?_push_of_some _ e)
    have ha₁ := ha'.keeps hk₁
    have hb₁ := hb'.keeps hk₁
    refine PySem.W.kla_codeExpr ?_
    refine wpAny_BinOp (wpAny_BinOp ?_)
    refine wpAny_Name (wpAny_loadName_local S.kind S.ly hns (v := .int z tz) (by simp) ?_) S.dy
    refine wpAny_Name (wpAny_loadName_free S.kind S.fa ea ha₁ ?_ S.da.2) S.da.1
    refine sub_int ?_
    refine wpAny_Name (wpAny_loadName_free S.kind S.fb eb hb₁ ?_ S.db.2) S.db.1
    refine mod_int' (by omega) ?_
    rw [Int.fmod_eq_emod_of_nonneg _ (by omega)]
    refine KskEnd.intro (news' := allNews X.base s.heap X.env.locals ++ own) ⟨F'.ns.keeps hk₁, fun b o e => hk₁ b o (F'.keep b o e), F'.above⟩ (fun p hp => ⟨hk₁ _ _ (N' p hp).1, (N' p hp).2⟩) fun p hp => hp
  · -- the list
    intro D h' tk out cc F' N' hlt kout
    have hD := fresh_of_news I N' hlt
    obtain ⟨ps, hp, ho, hs⟩ := kout
    have hmem : ∀ p ∈ ps, ∃ n t, p.2 = .int n t := fun p hp' => by
      have := hp.mem_iff.mp hp'
      exact hI.all _ (List.of_mem_zip this).2
    have hz' : ((ns.map fun z => (z - za) % zb).zip its).map (fun p => (p.1, numOf p.2)) = ns.map fun z => ((z - za) % zb, z) := by
      have hn := hI.nums
      rw [← hn]
      have go : ∀ (l : List Value), ((((l.map numOf).map fun z => (z - za) % zb).zip l).map fun p => (p.1, numOf p.2)) = (l.map numOf).map fun z => ((z - za) % zb, z) := by
        intro l
        induction l with
        | nil => rfl
        | cons x l ih => simp only [List.map_cons, List.zip_cons_cons, ih]
      exact go its
    have vals : Vals ((ps.map fun p => (p.1, numOf p.2)).map (fun p => V.int p.2)) (ps.map Prod.snd) := by
      have go : ∀ (l : List (Int × Value)), (∀ p ∈ l, ∃ n t, p.2 = .int n t) → Vals ((l.map fun p => (p.1, numOf p.2)).map (fun p => V.int p.2)) (l.map Prod.snd) := by
        intro l
        induction l with
        | nil => intro _; exact .nil
        | cons x l ih =>
          intro hx
          refine .cons ?_ (ih fun p hp => hx p (List.mem_cons_of_mem _ hp))
          obtain ⟨n, t, e⟩ := hx x List.mem_cons_self
          show ∃ t, x.2 = Value.int (numOf x.2) t
          rw [e]; exact ⟨t, rfl⟩
      exact go ps hmem
    have hout : KOut za zb ns ((ps.map fun p => (p.1, numOf p.2)).map (·.2)) := by
      refine ⟨ps.map fun p => (p.1, numOf p.2), ?_, rfl, ?_⟩
      · rw [← hz']; exact hp.map _
      · refine List.pairwise_map.mpr (hs.imp fun {p q} z => ?_)
        simpa using z
    have hDo : h'.get? D = some (seqObj "list" out cc) := (N' _ List.mem_cons_self).1
    have I2 : Inv X pins σ (upd H D (.lst (((ps.map fun p => (p.1, numOf p.2)).map (·.2)).map V.int))) { s with heap := h', toks := tk } := by
      refine I.fromK F F' (fun p hp => N' p (List.mem_cons_of_mem _ hp)) hD ⟨?_, ps.map Prod.snd, cc, ?_, ?_⟩
      · have h1 := hp.length_eq
        rw [List.length_zip, len, Nat.min_self] at h1
        simp only [List.length_map]
        rw [h1, hI.length]
        exact Nat.le_trans (Nat.le_of_lt h64) (by decide)
      · have ev := vals; simp only [List.map_map] at ev ⊢; exact ev
      · rw [hDo, ← ho]
    exact ⟨.ref D, _, I2, rfl, q D _ (I.hok.freshN hD) hout⟩
end L2

set_option Elab.async false
set_option linter.all false
set_option maxRecDepth 100000
set_option maxHeartbeats 4000000
namespace L2
open PySem PySem.Spec PyProof.Rows

/-! ### the law's entry, where some defs make lambdas: their tables are tracked -/
def BmOk (mg : Str → Option Value) (base : Heap) : Prop := ∃ bm o, mg "__builtins__" = some (.ref bm) ∧ bm ≠ builtinsNs ∧ bm ≠ mainGlobals ∧ base.get? bm = some o ∧ o.cls = .type "module" ∧ o.dict = some builtinsNs ∧ o.data = .plain
/-- nothing is tracked but the script and the empty tables -/
def OnlyT (ts : List Addr) (H : Hp) : Prop := (∀ P ∈ ts, H P = some (.tbl #[])) ∧ ∀ b, H b = none ∨ (b ∈ ts ∧ H b = some (.tbl #[])) ∨ ∃ o xs, H b = some (.frz o (.lst xs))
theorem law_callT {P : Program} {w : World} {K : PySem.W.Frag} {mg mb : Str → Option Value} {CX : CXT} {k : Nat} {fa a : Addr} {fd : FuncData} {x : Str} {sp : Sp} {s₁ : Shared} {vs : List Value} {ns : List Int} {ts : List Addr}
    (KX : K.In s₁.heap) (hns : s₁.heap.Ns mainGlobals mg) (hb : s₁.heap.Ns builtinsNs mb) (hbb : ∀ x : Str, x ≠ "__name__" → mb x = bootBuiltins x) (hlim : s₁.heap.NoLimit) (hg : s₁.gens = #[]) (hbm : BmOk mg s₁.heap)
    (hts : ∀ P ∈ ts, s₁.heap.get? P = some (PySem.W.tabObj #[])) (hcd : ∀ P ∈ ts, ∃ c, PySem.W.codeHdIn K c P = true) (hkt : ∀ P ∈ ts, K.lookup P = none)
    (ha : s₁.heap.get? a = some { cls := .type "list", data := .seq vs.toArray }) (hi : IntsAre vs ns) (hl : ns.length ≤ sizeLine) (hr : Room k callerA)
    (F : ∀ base : Heap, K.In base → base.Ns mainGlobals mg → BmOk mg base → FnOk P w K mg base CX k fa fd [x] sp) (hbind : ∀ (s : Shared) (u : Value), BindsTo s fd ⟨[u], []⟩ [(x, u)])
    (hsp : ∀ H : Hp, OnlyT ts H → SqL K H a (ns.map V.int) → sp [.ref a] H (fun v _ => v = .bl true) fun _ _ _ => False)
    (hCX : ∀ H e s', CX [] H s₁ (fun _ _ _ => False) e s' → False) :
    codeAny (model P w) callerA (.call (.ref fa) ⟨[.ref a], []⟩) (fun r s' => r = .ok (.ret (.bool true)) ∧ OldK s₁.heap s'.heap ∧ s'.os = s₁.os ∧ AllBare s'.gens) s₁ := by
  have rv := vals_ints hi
  have lenV := hi.length
  have hat : a ∉ ts := fun z => by
    have := hts a z
    rw [ha] at this; cases this
  have core : ∀ H : Hp, OnlyT ts H → SqL K H a (ns.map V.int) → HOk P w H s₁.heap → (∀ b, H b ≠ none → b = a ∨ b ∈ ts) → (H a ≠ none → K.lookup a = none) →
      codeAny (model P w) callerA (.call (.ref fa) ⟨[.ref a], []⟩) (fun r s' => r = .ok (.ret (.bool true)) ∧ OldK s₁.heap s'.heap ∧ s'.os = s₁.os ∧ AllBare s'.gens) s₁ := by
    intro H hO hS hok hA hK
    have base_of : ∀ {b : Addr} {o : Obj}, s₁.heap.get? b = some o → H b = none → (hidT s₁.heap H).get? b = some o := fun e n => hidT_get e n
    have noA : ∀ {b : Addr} {o : Obj}, s₁.heap.get? b = some o → (∀ v n, o.data ≠ .seq v n) → (∀ v, o.data ≠ .fields v) → H b = none := fun {b o} e d1 d2 => by
      cases q : H b with
      | none => rfl
      | some u =>
        rcases hA b (by rw [q]; simp) with e' | e'
        · subst e'
          rw [ha] at e; cases e
          exact absurd rfl (d1 _ _)
        · rw [hts b e'] at e; cases e
          exact absurd rfl (d2 _)
    have nsK : ∀ {b : Addr} {m : Str → Option Value}, s₁.heap.Ns b m → (hidT s₁.heap H).Ns b m := fun {b m} ⟨o, es, ep, e, d, r⟩ => ⟨o, es, ep, base_of e (noA e (by rw [d]; intro v n z; cases z) (by rw [d]; intro v z; cases z)), d, r⟩
    have hKb : K.In (hidT s₁.heap H) := fun b o e => base_of (KX b o e) (by
      cases q : H b with
      | none => rfl
      | some u =>
        rcases hA b (by rw [q]; simp) with e' | e'
        · subst e'
          rw [hK (by rw [q]; simp)] at e; cases e
        · rw [hkt b e'] at e; cases e)
    have hB : BmOk mg (hidT s₁.heap H) := by
      obtain ⟨bm, o, b1, b2, b3, b4, b5, b6, b7⟩ := hbm
      exact ⟨bm, o, b1, b2, b3, base_of b4 (noA b4 (by rw [b7]; intro v n z; cases z) (by rw [b7]; intro v z; cases z)), b5, b6, b7⟩
    have hM : Mod K mg (hidT s₁.heap H) := ⟨hKb, nsK hns, ⟨mb, nsK hb, hbb⟩, let ⟨mc, h1, h2⟩ := hlim; ⟨mc, nsK h1, h2⟩⟩
    have e0 : Env0 P w K mg (hidT s₁.heap H) callerA [] s₁ H := ⟨rfl, hM, fun b o e => of_hidT e, Nat.le_of_eq (hidT_size _ _), trivial, fun b hb => absurd (show b ∈ ([] : List Addr) from hb) (by simp), hok, .of_eq hg⟩
    refine codeAny_mono ((F _ hKb (nsK hns) hB).run callerA [] s₁ H ⟨[.ref a], []⟩ [.ref a] [.ref a] _ _ hr e0 (hbind s₁ (.ref a)) (.cons rfl .nil) (hsp H hO hS)) fun r s' h => ?_
    cases r with
    | error e => exact (hCX H e s' h).elim
    | ok fl =>
      cases fl with
      | next => exact False.elim h
      | brk => exact False.elim h
      | cont => exact False.elim h
      | ret u =>
        obtain ⟨v, H', os, bare, un, hok', r', q⟩ := h
        have q' : v = .bl true := q
        subst q'
        obtain rfl : u = Value.bool true := r'
        refine ⟨rfl, ⟨fun b o e => ?_, fun b o e => un.there b o e (by simp)⟩, os, bare⟩
        cases q : H b with
        | none => exact .inl (un.keep b o e q (by intro z; exact absurd (show b ∈ ([] : List Addr) from z) (by simp)) (by simp))
        | some u =>
          rcases hO.2 b with z | ⟨zt, z⟩ | ⟨ob, xs, z⟩
          · rw [q] at z; cases z
          · obtain ⟨more, z2⟩ := un.tbls b _ z
            have e1 := hts b zt
            rw [e] at e1; cases e1
            have e2 : s'.heap.get? b = some { cls := .none, data := .fields (#[] ++ more) } := hok' b _ z2
            obtain ⟨c, hc⟩ := hcd b zt
            obtain ⟨oc, vsc, _, _, _, _, _, _, _, g1, g2, g3, g4, _⟩ := PySem.W.codeHd_of_K KX hc
            exact .inr (.inl ⟨⟨c, oc, vsc, g1, g2, g3, g4⟩, rfl, #[], more, rfl, e2⟩)
          · have z2 := un.frzs b ob _ z
            obtain ⟨e1, _⟩ := hok b _ z
            obtain ⟨e2, _⟩ := hok' b _ z2
            rw [e] at e1; cases e1
            exact .inl e2
  have tabOk : ∀ (H : Hp), (∀ P ∈ ts, H P = some (.tbl #[])) → True := fun _ _ => trivial
  classical
  cases hk : K.lookup a with
  | some o =>
    have e := KX a o hk
    rw [ha] at e
    cases e
    refine core (fun b => if b ∈ ts then some (.tbl #[]) else none) ⟨fun P hP => if_pos hP, fun b => ?_⟩ (.inr ⟨_, vs.toArray, _, hk, rfl, rfl, rfl, by rw [List.size_toArray, lenV]; exact hl, by simpa using rv⟩) (fun b u z => ?_) (fun b z => ?_) fun z => absurd (if_neg hat) z
    · by_cases hb : b ∈ ts
      · exact .inr (.inl ⟨hb, if_pos hb⟩)
      · exact .inl (if_neg hb)
    · by_cases hb : b ∈ ts
      · have z' := (if_pos hb).symm.trans z
        cases z'
        exact hts b hb
      · have z' := (if_neg hb).symm.trans z
        cases z'
    · by_cases hb : b ∈ ts
      · exact .inr hb
      · exact absurd (if_neg hb) z
  | none =>
    refine core (fun b => if b = a then some (.frz { cls := .type "list", data := .seq vs.toArray } (.lst (ns.map V.int))) else if b ∈ ts then some (.tbl #[]) else none) ⟨fun P hP => ?_, fun b => ?_⟩ (.inl (.inr ⟨{ cls := .type "list", data := .seq vs.toArray }, if_pos rfl⟩)) (fun b u z => ?_) (fun b z => ?_) fun _ => hk
    · have : P ≠ a := fun z => hat (z ▸ hP)
      show (if P = a then _ else if P ∈ ts then _ else _) = _
      rw [if_neg this, if_pos hP]
    · by_cases hb : b = a
      · exact .inr (.inr ⟨_, _, if_pos hb⟩)
      · by_cases ht : b ∈ ts
        · exact .inr (.inl ⟨ht, by show (if b = a then _ else if b ∈ ts then _ else _) = _; rw [if_neg hb, if_pos ht]⟩)
        · exact .inl (by show (if b = a then _ else if b ∈ ts then _ else _) = _; rw [if_neg hb, if_neg ht])
    · by_cases hb : b = a
      · have z' := (if_pos hb).symm.trans z
        cases z'
        subst hb
        exact ⟨ha, by rw [List.length_map]; exact hl, vs, _, rv, ha⟩
      · have z1 : (if b ∈ ts then some (HO.tbl #[]) else none) = some u := (if_neg hb).symm.trans z
        by_cases ht : b ∈ ts
        · rw [if_pos ht] at z1; cases z1
          exact hts b ht
        · rw [if_neg ht] at z1; cases z1
    · by_cases hb : b = a
      · exact .inl hb
      · by_cases ht : b ∈ ts
        · exact .inr ht
        · exact absurd (by show (if b = a then _ else if b ∈ ts then _ else _) = _; rw [if_neg hb, if_neg ht]) z

theorem walk_ofT {l : PySem.W.OpenLaw} {n k : Nat} {q : Program} {loose : List Str} {XP : (Str → Option Value) → Heap → Prop} {YP : World → Heap → Prop} {d : DefRec} {K : Params → PySem.W.Frag} {CX : World → CXT} {sp : World → Sp} {x : Str} {ts : List Addr}
    (hn : l.most = some n) (hn2 : n ≤ sizeLine) (hdf : d.params.defaults = []) (hr : Room k callerA)
    (hY : ∀ (w : World) (h : Heap), YP w h → (K w.params).In h) (hT : ∀ (w : World) (h : Heap), YP w h → ∀ P ∈ ts, h.get? P = some (PySem.W.tabObj #[]))
    (hcd : ∀ (w : World), ∀ P ∈ ts, ∃ c, PySem.W.codeHdIn (K w.params) c P = true) (hkt : ∀ (w : World), ∀ P ∈ ts, (K w.params).lookup P = none)
    (F : ∀ (w : World) (mg : Str → Option Value) (fa : Addr) (h : Heap), (K w.params).In h → h.Ns mainGlobals mg → mg d.name = some (.ref fa) →
      ∃ fd : FuncData, (∀ (s : Shared) (u : Value), BindsTo s fd ⟨[u], []⟩ [(x, u)]) ∧
        ∀ base : Heap, (K w.params).In base → base.Ns mainGlobals mg → BmOk mg base → FnOk l.prog w (K w.params) mg base (CX w) k fa fd [x] (sp w))
    (hsp : ∀ (w : World) (H : Hp) (a : Addr) (ns : List Int), ns.length ≤ n → OnlyT ts H → SqL (K w.params) H a (ns.map V.int) → sp w [.ref a] H (fun v _ => v = .bl true) fun _ _ _ => False)
    (hCX : ∀ (w : World) (H : Hp) (s : Shared) (e : Value) (s' : Shared), CX w [] H s (fun _ _ _ => False) e s' → False) :
    PySem.W.WalkO q loose XP YP l.row.toRowW d [] (fun f vs => PySem.call f vs) := by
  refine Att.attach_call hn hdf fun w s₀ s₁ mg mb fa o pm cd doc a vs ns G Y ho hd hcd' hmg hobj hints hlen hg => ?_
  have KX := hY w _ Y
  obtain ⟨fd, hb, hF⟩ := F w mg fa _ KX G.T.g hmg
  have hB : BmOk mg s₁.heap := by
    obtain ⟨bm, ob, b1, b2, b3, b4, b5, b6⟩ := G.T.bmain
    refine ⟨bm, ob, b1, b2, fun z => ?_, b3, b4, b5, b6⟩
    obtain ⟨o', es, ep, e, hd', _⟩ := G.T.g
    rw [z, e] at b3; cases b3; rw [hd'] at b6; cases b6
  exact law_callT KX G.T.g G.T.b G.T.builtins G.T.nolimit hg hB (hT w _ Y) (hcd w) (hkt w) hobj hints (Nat.le_trans hlen hn2) hr hF hb (fun H hO hS => hsp w H a ns hlen hO hS) fun H e s' => hCX w H s₁ e s'

/-! ### a def that makes a lambda: its code is known -/
structure FunC (K : PySem.W.Frag) (x qual : Str) (st : Stmt) (f : Addr) (fd : FuncData) (c : Addr) : Prop where
  ex : ∃ (oc : Value) (od : Option Addr) (kV doc pm : Value) (an : Option Addr) (ct : Value) (osl : Array (Option Value)),
    fd = PySem.W.fnOf x qual (defArgs st) (defBody st) (defScope st) .none kV doc pm an (.ref c) ct ∧ K.lookup f = some ⟨oc, od, .func fd, osl⟩ ∧ PySem.W.codeIn K (.ref c) qual = true
  kp : PySem.W.keepIn K (.ref f) = true
theorem FunC.fun {K : PySem.W.Frag} {x qual : Str} {st : Stmt} {f : Addr} {fd : FuncData} {c : Addr} (F : FunC K x qual st f fd c) : Fun K x qual st f fd := by
  obtain ⟨oc, od, kV, doc, pm, an, ct, osl, e, lk, hcd⟩ := F.ex
  exact ⟨⟨oc, od, kV, doc, pm, an, _, ct, osl, e, lk, hcd⟩, F.kp⟩
section
variable {P : Program} {w : World} {K : PySem.W.Frag} {mg : Str → Option Value} {base : Heap}
theorem FunC.ok {x qual : Str} {st : Stmt} {f : Addr} {fd : FuncData} {c : Addr} {N ps : List Str} {k : Nat} {sp : Sp} (F : FunC K x qual st f fd c) (S : FnScope N ps (defScope st)) (len : ∀ vs H Q E, sp vs H Q E → vs.length = ps.length)
    (hbody : ∀ (A : Around) (outer : List Env) (s : Shared) (H : Hp) (vs : List V) (Q : VK) (E : XK), Room k (A.deeper (envOfC qual (defScope st) s.heap.objs.size f (.ref c))) → sp vs H Q E →
      ∃ t, PSs (cxOf CX0 P w K mg base N qual (defScope st) f (.ref c) A outer s H E).nox (defBody st) t ∧ t { nx := fun _ H' => Q .non H', rt := Q } (start N vs) H) : FnOk P w K mg base CX0 (k + 1) f fd ps sp := by
  obtain ⟨oc, od, kV, doc, pm, an, ct, osl, rfl, lk, hcd⟩ := F.ex
  refine fn_of lk hcd S len fun A outer s H vs Q E hr hsp => ?_
  obtain ⟨t, h, q⟩ := hbody A outer s H vs Q E hr hsp
  exact ⟨t, h.nox, q⟩
theorem funC_mk {x qual : Str} {st : Stmt} {f c : Addr} {oc : Value} {od an : Option Addr} {osl : Array (Option Value)} {kV doc pm ct : Value} (l : K.lookup f = some ⟨oc, od, .func (PySem.W.fnOf x qual (defArgs st) (defBody st) (defScope st) .none kV doc pm an (.ref c) ct), osl⟩)
    (hcd : PySem.W.codeIn K (.ref c) qual = true) (kp : PySem.W.keepIn K (.ref f) = true) : FunC K x qual st f (PySem.W.fnOf x qual (defArgs st) (defBody st) (defScope st) .none kV doc pm an (.ref c) ct) c := ⟨⟨oc, od, kV, doc, pm, an, ct, osl, rfl, l, hcd⟩, kp⟩
theorem lamC_of {N : List Str} {qual : Str} {scope : Scope} {f c P' : Addr} {CX : CXT} {A : Around} {outer : List Env} {s : Shared} {H : Hp} {E : XK} (kb : K.In base) (hb : BmOk mg base) (hc : PySem.W.codeHdIn K c P' = true) :
    LamC (cxOf CX P w K mg base N qual scope f (.ref c) A outer s H E).nox c P' := ⟨rfl, PySem.W.codeHd_of_K kb hc, hb⟩
end
end L2

set_option Elab.async false
set_option linter.all false
set_option maxRecDepth 100000
set_option maxHeartbeats 4000000
namespace L2
open PySem PySem.Spec PyProof.Rows

def blkName (sc scX : Scope) (y : Str × NameKind) : Bool := match y.2 with
  | .cell => false
  | .local => (match sc.names.lookup y.1 with | some .local => true | _ => false)
  | .free => (match scX.names.lookup y.1 with | some .cell => true | some .free => true | _ => false)
  | _ => true
def blkSrc (NB : List Str) (src : List (Option Nat)) (sc : Scope) (N : List Str) (i : Nat) : Bool := match NB[i]?, src[i]? with
  | some x, some (some j) => (N[j]? == some x) && (match sc.names.lookup x with | some .free => true | _ => false)
  | _, _ => true
def blkKind (sc : Scope) : Bool := match sc.kind with | .function => true | _ => false
def blkChk (NB : List Str) (src : List (Option Nat)) (sc scX : Scope) (N : List Str) : Bool :=
  blkKind sc && decide NB.Nodup && (src.length == NB.length) && (sc.names.all (blkName sc scX)) && (List.range NB.length).all (blkSrc NB src sc N)
theorem blk_of {NB : List Str} {src : List (Option Nat)} {sc : Scope} {X : Cx} (h : blkChk NB src sc X.env.scope X.N = true) : BlkScope NB src sc X := by
  unfold blkChk at h
  simp only [Bool.and_eq_true, decide_eq_true_eq, beq_iff_eq, List.all_eq_true] at h
  obtain ⟨⟨⟨⟨h1, h2⟩, h3⟩, h4⟩, h5⟩ := h
  refine ⟨?_, h2, h3, fun y hy z => ?_, fun y hy z => ?_, fun y hy z => ?_, fun i x j e1 e2 => ?_⟩
  · unfold blkKind at h1
    split at h1
    · assumption
    · cases h1
  · have := h4 y hy
    obtain ⟨n, k⟩ := y
    obtain rfl : k = .cell := z
    cases this
  · have := h4 y hy
    obtain ⟨n, k⟩ := y
    obtain rfl : k = .local := z
    dsimp only [blkName] at this ⊢
    split at this
    · assumption
    · cases this
  · have := h4 y hy
    obtain ⟨n, k⟩ := y
    obtain rfl : k = .free := z
    dsimp only [blkName] at this ⊢
    split at this
    · exact .inl (by assumption)
    · exact .inr (by assumption)
    · cases this
  · have hi : i < NB.length := (List.getElem?_eq_some_iff.mp e1).1
    have := h5 i (List.mem_range.mpr hi)
    unfold blkSrc at this
    rw [e1, e2] at this
    simp only [Bool.and_eq_true, beq_iff_eq] at this
    refine ⟨this.1, ?_⟩
    have t2 := this.2
    split at t2
    · assumption
    · cases t2

/-- a comprehension over a list: Pv by turn, the list so far, the block's values, the heap -/
theorem comp_list {K : PySem.W.Frag} {a D : Addr} {xs : List V} {g : TG} {tt : TT} {te : TE} {fin : Hp → Prop} {σB : St} {H0 : Hp} (Pv : Nat → List V → St → Hp → Prop) (h0 : Pv 0 [] σB H0)
    (hl : ∀ i ys σ H, i ≤ xs.length → Pv i ys σ H → SqL K H a xs)
    (hs : ∀ i x ys σ H (Kt : V → St → Hp → Prop) (Kf : St → Hp → Prop), xs[i]? = some x → Pv i ys σ H →
      (∀ v σ2 H4, H4 D = some (.lst ys) → ys.length < sizeLine → Pv (i + 1) (ys ++ [v]) σ2 (upd H4 D (.lst (ys ++ [v]))) → Kt v σ2 H4) → (∀ σ2 H3, Pv (i + 1) ys σ2 H3 → Kf σ2 H3) →
      g x σ H fun σ2 H2 => tt σ2 H2 fun b H3 => if b = true then te σ2 H3 fun v H4 => Kt v σ2 H4 else Kf σ2 H3)
    (hd : ∀ ys σ H, Pv xs.length ys σ H → fin H) : CompW (Itl K a) g tt te D fin σB H0 := by
  refine ⟨fun i m σ H => m = xs.length - i ∧ i ≤ xs.length ∧ ∃ ys, Pv i ys σ H, ⟨xs.length, by simp, Nat.zero_le _, [], h0⟩, ?_⟩
  rintro i m σ H ⟨rfl, hi, ys, p⟩
  have q := hl i ys σ H hi p
  by_cases hlt : i < xs.length
  · refine .inr ⟨⟨xs, xs[i], q, by simp [hlt]⟩, ?_⟩
    rintro x H' ⟨rfl, y⟩
    exact hs i x ys σ _ (fun v σ2 H4 => ∃ ys, H4 D = some (.lst ys) ∧ ys.length < sizeLine ∧ ∃ m', m' < xs.length - i ∧ m' = xs.length - (i + 1) ∧ i + 1 ≤ xs.length ∧ ∃ ys', Pv (i + 1) ys' σ2 (upd H4 D (.lst (ys ++ [v]))))
      (fun σ2 H3 => ∃ m', m' < xs.length - i ∧ m' = xs.length - (i + 1) ∧ i + 1 ≤ xs.length ∧ ∃ ys', Pv (i + 1) ys' σ2 H3) (y xs q) p
      (fun v σ2 H4 z1 z2 z3 => ⟨ys, z1, z2, _, by omega, rfl, hlt, _, z3⟩) (fun σ2 H3 z => ⟨_, by omega, rfl, hlt, _, z⟩)
  · have e : i = xs.length := by omega
    subst e
    exact .inl ⟨⟨xs, q, Nat.le_refl _⟩, hd ys σ H p⟩
/-- .. over a range -/
theorem comp_range {lo : Int} {n : Nat} {D : Addr} {g : TG} {tt : TT} {te : TE} {fin : Hp → Prop} {σB : St} {H0 : Hp} (Pv : Nat → List V → St → Hp → Prop) (h0 : Pv 0 [] σB H0)
    (hs : ∀ i ys σ H (Kt : V → St → Hp → Prop) (Kf : St → Hp → Prop), i < n → Pv i ys σ H →
      (∀ v σ2 H4, H4 D = some (.lst ys) → ys.length < sizeLine → Pv (i + 1) (ys ++ [v]) σ2 (upd H4 D (.lst (ys ++ [v]))) → Kt v σ2 H4) → (∀ σ2 H3, Pv (i + 1) ys σ2 H3 → Kf σ2 H3) →
      g (.int (lo + i)) σ H fun σ2 H2 => tt σ2 H2 fun b H3 => if b = true then te σ2 H3 fun v H4 => Kt v σ2 H4 else Kf σ2 H3)
    (hd : ∀ ys σ H, Pv n ys σ H → fin H) : CompW (Itr lo n) g tt te D fin σB H0 := by
  refine ⟨fun i m σ H => m = n - i ∧ i ≤ n ∧ ∃ ys, Pv i ys σ H, ⟨n, by simp, Nat.zero_le _, [], h0⟩, ?_⟩
  rintro i m σ H ⟨rfl, hi, ys, p⟩
  by_cases hlt : i < n
  · refine .inr ⟨hlt, ?_⟩
    rintro x H' ⟨rfl, rfl⟩
    exact hs i ys σ _ (fun v σ2 H4 => ∃ ys, H4 D = some (.lst ys) ∧ ys.length < sizeLine ∧ ∃ m', m' < n - i ∧ m' = n - (i + 1) ∧ i + 1 ≤ n ∧ ∃ ys', Pv (i + 1) ys' σ2 (upd H4 D (.lst (ys ++ [v]))))
      (fun σ2 H3 => ∃ m', m' < n - i ∧ m' = n - (i + 1) ∧ i + 1 ≤ n ∧ ∃ ys', Pv (i + 1) ys' σ2 H3) hlt p
      (fun v σ2 H4 z1 z2 z3 => ⟨ys, z1, z2, _, by omega, rfl, hlt, _, z3⟩) (fun σ2 H3 z => ⟨_, by omega, rfl, hlt, _, z⟩)
  · have e : i = n := by omega
    subst e
    exact .inl ⟨Nat.le_refl _, hd ys σ H p⟩
end L2

set_option Elab.async false
set_option linter.all false
set_option maxRecDepth 100000
set_option maxHeartbeats 4000000
namespace K19
open PySem L2
def top (i : Nat) : Stmt := PySem.Challenge.pw_neverwait_k19_refusals_alone.main.body.getD i (.Pass ⟨0, 0, 0, 0⟩)
abbrev sWhole : Stmt := top 16
abbrev sWithin : Stmt := top 17
abbrev sHouse : Stmt := top 18
abbrev sRow : Stmt := top 20
/-- the built-in names that the text reads -/
structure Bl (mg : Str → Option Value) : Prop where
  isi : mg "isinstance" = none
  int : mg "int" = none
  bool : mg "bool" = none
  tup : mg "tuple" = none
  lst : mg "list" = none
  str : mg "str" = none
  set : mg "set" = none
  len : mg "len" = none
  range : mg "range" = none
  sorted : mg "sorted" = none
  any : mg "any" = none
  max : mg "max" = none
  min : mg "min" = none
  verr : mg "ValueError" = none
/-- no whole number -/
def NotWhole (K : PySem.W.Frag) (H : Hp) (x : V) : Prop := ∃ t, TyX K H x t ∧ (PySem.W.kitOne K t (.type "int") = some false ∨ (PySem.W.kitOne K t (.type "int") = some true ∧ PySem.W.kitOne K t (.type "bool") = some true))
theorem kit_int_int {K : PySem.W.Frag} : PySem.W.kitOne K (.type "int") (.type "int") = some true := by kernel_rfl
theorem kit_int_bool {K : PySem.W.Frag} : PySem.W.kitOne K (.type "int") (.type "bool") = some false := by kernel_rfl
/-- is x a whole number, and if so which -/
inductive Wh (K : PySem.W.Frag) (H : Hp) : V → Option Int → Prop where
  | int (i : Int) : Wh K H (.int i) (some i)
  | no {x : V} (h : NotWhole K H x) : Wh K H x none
def spWhole (K : PySem.W.Frag) : Sp := fun vs H Q _ => ∃ x o, vs = [x] ∧ Wh K H x o ∧ Q (.bl o.isSome) H
section
variable {P : Program} {w : World} {K : PySem.W.Frag} {mg : Str → Option Value} {base : Heap}
theorem scWhole : FnScope ["thing"] ["thing"] (defScope sWhole) := ⟨rfl, rfl, rfl, by decide +kernel, rfl, by decide +kernel, by decide +kernel⟩
theorem ok_whole {f : Addr} {fd : FuncData} (F : Fun K "is_whole" "is_whole" sWhole f fd) (B : Bl mg) : FnOk P w K mg base CX0 1 f fd ["thing"] (spWhole K) := by
  refine F.ok scWhole (fun vs H Q E h => ?_) (fun cdv A outer s H vs Q E hr h => ?_)
  · obtain ⟨x, o, rfl, _⟩ := h
    rfl
  · obtain ⟨x, o, rfl, W, k⟩ := h
    refine ⟨_, pss_one (ps_ret (pe_and (pe_callB call_isi (by rfl) B.isi PyProof.Rows.boot_isinstance (pa_cons (pv 0) (pa_cons (pe_bltn (v := .ty "int") rfl B.int PyProof.Rows.boot_int rfl) pa_nil)))
      (pe_one (pe_not (pe_callB call_isi (by rfl) B.isi PyProof.Rows.boot_isinstance (pa_cons (pv 0) (pa_cons (pe_bltn (v := .ty "bool") rfl B.bool PyProof.Rows.boot_bool rfl) pa_nil))))))), ?_⟩
    cases W with
    | int i =>
      refine ⟨_, rfl, _, _, _, .type "int", true, rfl, ⟨rfl, kit_int_int⟩, .of (.int _), true, rfl, ?_⟩
      exact ⟨_, rfl, _, _, _, .type "int", false, rfl, ⟨rfl, kit_int_bool⟩, .of (.int _), false, rfl, k⟩
    | no h =>
      obtain ⟨t, ty, h | ⟨h1, h2⟩⟩ := h
      · exact ⟨_, rfl, _, _, _, t, false, rfl, ⟨rfl, h⟩, ty, false, rfl, k⟩
      · refine ⟨_, rfl, _, _, _, t, true, rfl, ⟨rfl, h1⟩, ty, true, rfl, ?_⟩
        exact ⟨_, rfl, _, _, _, t, true, rfl, ⟨rfl, h2⟩, ty, true, rfl, k⟩
end
/-! ### a def of the text that is called by its name -/
structure Cal (P : Program) (w : World) (K : PySem.W.Frag) (mg : Str → Option Value) (base : Heap) (CX : CXT) (k : Nat) (x : Str) (ps : List Str) (sp : Sp) : Prop where
  ex : ∃ f fd, mg x = some (.ref f) ∧ PySem.W.keepIn K (.ref f) = true ∧ Binds K fd ps [] ∧ FnOk P w K mg base CX k f fd ps sp
theorem Cal.x {P : Program} {w : World} {K : PySem.W.Frag} {mg : Str → Option Value} {base : Heap} {k : Nat} {x : Str} {ps : List Str} {sp : Sp} (C : Cal P w K mg base CX0 k x ps sp) : Cal P w K mg base (CXf P w) k x ps sp :=
  let ⟨f, fd, a, b, c, d⟩ := C.ex; ⟨f, fd, a, b, c, d.x⟩
theorem pe_cal {X : Cx} {CX : CXT} {k : Nat} {x : Str} {ps : List Str} {sp : Sp} {E : XK} {e : Expr} {es : List Expr} {t : TA} {p pos : Pos} (C : Cal X.prog X.w X.K X.mg X.base CX k x ps sp) (hr : Room k X.A) (hx : Passes CX X E) (ha : PA X (e :: es) t) (hg : Gl X x := by rfl)
    (hdb : (x == ("__debug__" : Str)) = false := by decide) (he : starEach (e :: es) X.env = (false, eval e X.env) :: starEach es X.env := by rfl) (hpl : (backTo pos (starEach es X.env)).any (·.1) = false := by rfl) :
    PE X (.Call (.Name x p) (e :: es) [] pos) (tCall sp [] E t) := by
  obtain ⟨f, fd, a, b, c, d⟩ := C.ex
  exact pe_call d hr hg a b c .nil hx ha hdb he hpl
section
variable {P : Program} {w : World} {K : PySem.W.Frag} {mg : Str → Option Value} {base : Heap}
def within (o : Option Int) (lo hi : Int) : Bool := match o with
  | some i => decide (lo ≤ i) && decide (i ≤ hi)
  | none => false
def spWithin (K : PySem.W.Frag) : Sp := fun vs H Q _ => ∃ x o lo hi, vs = [x, .int lo, .int hi] ∧ Wh K H x o ∧ Q (.bl (within o lo hi)) H
theorem scWithin : FnScope ["thing", "least", "most"] ["thing", "least", "most"] (defScope sWithin) := ⟨rfl, rfl, rfl, by decide +kernel, rfl, by decide +kernel, by decide +kernel⟩
theorem ok_within {f : Addr} {fd : FuncData} (F : Fun K "is_whole_within" "is_whole_within" sWithin f fd) (W : Cal P w K mg base CX0 1 "is_whole" ["thing"] (spWhole K)) : FnOk P w K mg base CX0 2 f fd ["thing", "least", "most"] (spWithin K) := by
  refine F.ok scWithin (fun vs H Q E h => ?_) (fun cdv A outer s H vs Q E hr h => ?_)
  · obtain ⟨x, o, lo, hi, rfl, _⟩ := h
    rfl
  · obtain ⟨x, o, lo, hi, rfl, wh, k⟩ := h
    refine ⟨_, pss_one (ps_ret (pe_and (pe_cal W hr pass0 (pa_cons (pv 0) pa_nil)) (pe_one (pe_chain op_le op_le (pv 1) (pv 0) (pv 2))))), ?_⟩
    refine ⟨_, rfl, x, o, rfl, wh, ?_⟩
    cases wh with
    | no h => exact ⟨false, rfl, k⟩
    | int i =>
      refine ⟨true, rfl, _, rfl, _, rfl, _, _, rfl, rfl, _, rfl, ?_⟩
      show if decide (lo ≤ i) = true then _ else _
      have k' : Q (.bl (decide (lo ≤ i) && decide (i ≤ hi))) H := k
      by_cases h : lo ≤ i
      · rw [decide_eq_true h] at k' ⊢
        exact ⟨_, rfl, _, _, rfl, rfl, k'⟩
      · rw [decide_eq_false h] at k' ⊢
        exact k'
def spHouse (K : PySem.W.Frag) : Sp := fun vs H Q _ => ∃ x o n, vs = [.int n, x] ∧ Wh K H x o ∧ Q (.bl (within o 0 (n - 1))) H
theorem scHouse : FnScope ["many", "thing"] ["many", "thing"] (defScope sHouse) := ⟨rfl, rfl, rfl, by decide +kernel, rfl, by decide +kernel, by decide +kernel⟩
theorem ok_house {f : Addr} {fd : FuncData} (F : Fun K "is_house" "is_house" sHouse f fd) (W : Cal P w K mg base CX0 2 "is_whole_within" ["thing", "least", "most"] (spWithin K)) : FnOk P w K mg base CX0 3 f fd ["many", "thing"] (spHouse K) := by
  refine F.ok scHouse (fun vs H Q E h => ?_) (fun cdv A outer s H vs Q E hr h => ?_)
  · obtain ⟨x, o, n, rfl, _⟩ := h
    rfl
  · obtain ⟨x, o, n, rfl, wh, k⟩ := h
    refine ⟨_, pss_one (ps_ret (pe_cal W hr pass0 (pa_cons (pv 1) (pa_cons pe_int (pa_cons (pe_op op_sub (pv 0) pe_int) pa_nil))))), ?_⟩
    exact ⟨_, rfl, _, rfl, _, _, rfl, rfl, x, o, 0, n - 1, rfl, wh, k⟩
/-- a tuple's things, or none -/
inductive Rw (K : PySem.W.Frag) (H : Hp) : V → Option (List V) → Prop where
  | tup {p : Addr} {xs : List V} (h : H p = some (.tup xs)) : Rw K H (.ref p) (some xs)
  | no {x : V} {t : Value} (ty : TyX K H x t) (h : PySem.W.kitOne K t (.type "tuple") = some false) : Rw K H x none
def isRow (o : Option (List V)) (m : Int) : Bool := match o with
  | some xs => decide ((xs.length : Int) = m)
  | none => false
theorem kit_tup {K : PySem.W.Frag} : PySem.W.kitOne K (.type "tuple") (.type "tuple") = some true := by kernel_rfl
def spRow (K : PySem.W.Frag) : Sp := fun vs H Q _ => ∃ x o m, vs = [x, .int m] ∧ Rw K H x o ∧ Q (.bl (isRow o m)) H
theorem scRow : FnScope ["thing", "length"] ["thing", "length"] (defScope sRow) := ⟨rfl, rfl, rfl, by decide +kernel, rfl, by decide +kernel, by decide +kernel⟩
theorem ok_row {f : Addr} {fd : FuncData} (F : Fun K "is_row" "is_row" sRow f fd) (B : Bl mg) : FnOk P w K mg base CX0 1 f fd ["thing", "length"] (spRow K) := by
  refine F.ok scRow (fun vs H Q E h => ?_) (fun cdv A outer s H vs Q E hr h => ?_)
  · obtain ⟨x, o, m, rfl, _⟩ := h
    rfl
  · obtain ⟨x, o, m, rfl, W, k⟩ := h
    refine ⟨_, pss_one (ps_ret (pe_and (pe_callB call_isi (by rfl) B.isi PyProof.Rows.boot_isinstance (pa_cons (pv 0) (pa_cons (pe_bltn (v := .ty "tuple") rfl B.tup PyProof.Rows.boot_tuple rfl) pa_nil)))
      (pe_one (pe_cmpR op_eq (pe_callB call_len_seq (by rfl) B.len PySem.boot_len (pa_cons (pv 0) pa_nil)) (pv 1) (nomark _))))), ?_⟩
    cases W with
    | @tup p xs h =>
      refine ⟨_, rfl, _, _, _, .type "tuple", true, rfl, ⟨rfl, kit_tup⟩, .of (.tup h), true, rfl, ?_⟩
      refine ⟨_, rfl, _, _, rfl, .inr (SqT.of h), _, rfl, rfl, ?_⟩
      have e : decide (V.int ((xs.length : Nat) : Int) = V.int m) = decide (((xs.length : Nat) : Int) = m) := by simp
      rw [e]
      exact k
    | no ty h => exact ⟨_, rfl, _, _, _, _, false, rfl, ⟨rfl, h⟩, ty, false, rfl, k⟩
end
end K19

set_option Elab.async false
set_option linter.all false
set_option maxRecDepth 100000
set_option maxHeartbeats 4000000
namespace K19
open PySem L2
abbrev sInit : Stmt := inClass (top 25) 0
abbrev sMany : Stmt := inClass (top 25) 1
abbrev sTies : Stmt := inClass (top 25) 2
abbrev sOut : Stmt := inClass (top 25) 3
abbrev sFar : Stmt := inClass (top 25) 4
abbrev sGood : Stmt := inClass (top 25) 6
abbrev sCheck : Stmt := inClass (top 25) 8
/-- an own error class -/
structure Er (K : PySem.W.Frag) (mg : Str → Option Value) (x : Str) (C : Addr) : Prop where
  at_ : mg x = some (.ref C)
  ok : ECls K C
theorem n12 : ¬ (("house_count" : Str) = "tie_list") := by decide +kernel
theorem n13 : ¬ (("house_count" : Str) = "out_lists") := by decide +kernel
theorem n14 : ¬ (("house_count" : Str) = "distances") := by decide +kernel
theorem n23 : ¬ (("tie_list" : Str) = "out_lists") := by decide +kernel
theorem n24 : ¬ (("tie_list" : Str) = "distances") := by decide +kernel
theorem n34 : ¬ (("out_lists" : Str) = "distances") := by decide +kernel
/-- a net's attributes -/
def flds (n : Int) (tl ol ds : Addr) : List (Str × V) := putF "distances" (.ref ds) (putF "out_lists" (.ref ol) (putF "tie_list" (.ref tl) (putF "house_count" (.int n) [])))
theorem flds_hc (n : Int) (tl ol ds : Addr) : (flds n tl ol ds).lookup ("house_count" : Str) = some (.int n) := by
  unfold flds
  rw [lookup_putF, if_neg n14, lookup_putF, if_neg n13, lookup_putF, if_neg n12, lookup_putF, if_pos rfl]
theorem flds_tl (n : Int) (tl ol ds : Addr) : (flds n tl ol ds).lookup ("tie_list" : Str) = some (.ref tl) := by
  unfold flds
  rw [lookup_putF, if_neg n24, lookup_putF, if_neg n23, lookup_putF, if_pos rfl]
theorem flds_no (n : Int) (tl ol ds : Addr) {m : Str} (h1 : ¬ m = "house_count") (h2 : ¬ m = "tie_list") (h3 : ¬ m = "out_lists") (h4 : ¬ m = "distances") : (flds n tl ol ds).lookup m = none := by
  unfold flds
  rw [lookup_putF, if_neg h4, lookup_putF, if_neg h3, lookup_putF, if_neg h2, lookup_putF, if_neg h1]
  all_goals rfl
def ringTies (n : Nat) : List (Int × Int) := (List.range n).map fun (h : Nat) => ((h : Int), (((h + 1) % n : Nat) : Int))
theorem ringTies_len (n : Nat) : (ringTies n).length = n := by unfold ringTies; rw [List.length_map, List.length_range]
/-- a pair of numbers, a tuple -/
def TupAt (H : Hp) (a : Addr) (y : Int × Int) : Prop := H a = some (.tup [.int y.1, .int y.2])
/-- a net of so many houses, tied in a ring one way -/
structure NetAt (K : PySem.W.Frag) (C : Addr) (H : Hp) (p : Addr) (n : Nat) : Prop where
  ob : ∃ dx tl ol ds, H p = some (.ins C dx (flds n tl ol ds)) ∧ ∃ as : List Addr, H tl = some (.lst (as.map V.ref)) ∧ as.length = n ∧ ∀ i, i < n → TupAt H (as.getD i 0) ((sortP (ringTies n)).getD i (0, 0))
structure NT (K : PySem.W.Frag) (mg : Str → Option Value) (C : Addr) : Prop where
  cl : Cls K C
  nH : NoAttr K C "house_count"
  nT : NoAttr K C "tie_list"
  nO : NoAttr K C "out_lists"
  nD : NoAttr K C "distances"
  mgC : mg "Net" = some (.ref C)
section
variable {P : Program} {w : World} {K : PySem.W.Frag} {mg : Str → Option Value} {base : Heap}
theorem scMany : FnScope ["self"] ["self"] (defScope sMany) := ⟨rfl, rfl, rfl, by decide +kernel, rfl, by decide +kernel, by decide +kernel⟩
def spMany (K : PySem.W.Frag) (C : Addr) : Sp := fun vs H Q _ => ∃ p n, vs = [.ref p] ∧ NetAt K C H p n ∧ Q (.int n) H
theorem ok_many {f C : Addr} {fd : FuncData} (F : Fun K "many" "Net.many" sMany f fd) (T : NT K mg C) : FnOk P w K mg base CX0 1 f fd ["self"] (spMany K C) := by
  refine F.ok scMany (fun vs H Q E h => ?_) (fun cdv A outer s H vs Q E hr h => ?_)
  · obtain ⟨p, n, rfl, _⟩ := h
    rfl
  · obtain ⟨p, n, rfl, N, k⟩ := h
    obtain ⟨⟨dx, tl, ol, ds, h1, _⟩⟩ := N
    refine ⟨_, pss_one (ps_ret (pe_fld (pv 0) rfl)), ?_⟩
    exact ⟨_, rfl, p, C, dx, _, _, rfl, h1, T.cl, T.nH, flds_hc _ _ _ _, k⟩
theorem scTies : FnScope ["self"] ["self"] (defScope sTies) := ⟨rfl, rfl, rfl, by decide +kernel, rfl, by decide +kernel, by decide +kernel⟩
def spTies (K : PySem.W.Frag) (C : Addr) : Sp := fun vs H Q _ => ∃ p n, vs = [.ref p] ∧ NetAt K C H p n ∧ ∀ (l : Addr) (as : List Addr), H l = none → as.length = n → (∀ i, i < n → TupAt H (as.getD i 0) ((sortP (ringTies n)).getD i (0, 0))) → Q (.ref l) (upd H l (.lst (as.map V.ref)))
theorem ok_ties {f C : Addr} {fd : FuncData} (F : Fun K "ties" "Net.ties" sTies f fd) (T : NT K mg C) (B : Bl mg) : FnOk P w K mg base CX0 1 f fd ["self"] (spTies K C) := by
  refine F.ok scTies (fun vs H Q E h => ?_) (fun cdv A outer s H vs Q E hr h => ?_)
  · obtain ⟨p, n, rfl, _⟩ := h
    rfl
  · obtain ⟨p, n, rfl, N, k⟩ := h
    obtain ⟨⟨dx, tl, ol, ds, h1, as, h2, h3, h4⟩⟩ := N
    refine ⟨_, pss_one (ps_ret (pe_callTy call_list_of (by rfl) B.lst PyProof.Rows.boot_list (pa_cons (pe_fld (pv 0) rfl) pa_nil))), ?_⟩
    exact ⟨_, rfl, p, C, dx, _, _, rfl, h1, T.cl, T.nT, flds_tl _ _ _ _, tl, _, rfl, .inl (SqL.of h2), fun l hl => k l as hl h3 h4⟩
theorem scCheck : FnScope ["self", "thing"] ["self", "thing"] (defScope sCheck) := ⟨rfl, rfl, rfl, by decide +kernel, rfl, by decide +kernel, by decide +kernel⟩
/-- a thing that is no house is refused -/
def spRefuse (K : PySem.W.Frag) (C CE : Addr) (xs : V → List V) : Sp := fun vs H _ E => ∃ p n x o, vs = .ref p :: xs x ∧ NetAt K C H p n ∧ Wh K H x o ∧ within o 0 ((n : Int) - 1) = false ∧ E (.ref CE) none H
theorem ok_check {f C CE : Addr} {fd : FuncData} (F : Fun K "check_house" "Net.check_house" sCheck f fd) (T : NT K mg C) (e : Er K mg "NoHouse" CE) (HH : Cal P w K mg base CX0 3 "is_house" ["many", "thing"] (spHouse K)) :
    FnOk P w K mg base (CXf P w) 4 f fd ["self", "thing"] (spRefuse K C CE fun x => [x]) := by
  refine F.okX scCheck (fun vs H Q E h => ?_) (fun cdv A outer s H vs Q E hr h => ?_)
  · obtain ⟨p, n, x, o, rfl, _⟩ := h
    rfl
  · obtain ⟨p, n, x, o, rfl, N, wh, hw, k⟩ := h
    obtain ⟨⟨dx, tl, ol, ds, h1, _⟩⟩ := N
    refine ⟨_, pss_one (ps_if (pt_not (pt_val (pe_cal HH hr pass0 (pa_cons (pe_fld (pv 0) rfl) (pa_cons (pv 1) pa_nil))))) (pss_one (ps_raise (q := fun H1 => E (.ref CE) none H1) rfl e.ok rfl e.at_ (pa_cons pe_str pa_nil) (fun _ _ _ _ _ _ _ I m q => raise_xe I m q))) pss_nil), ?_⟩
    refine ⟨_, rfl, p, C, dx, _, _, rfl, h1, T.cl, T.nH, flds_hc _ _ _ _, _, rfl, x, o, n, rfl, wh, _, rfl, ?_⟩
    rw [hw]
    exact iteT ⟨by show 1 ≤ sizeLine; decide, k⟩
theorem scOut : FnScope ["self", "house"] ["self", "house"] (defScope sOut) := ⟨rfl, rfl, rfl, by decide +kernel, rfl, by decide +kernel, by decide +kernel⟩
/-- a method of the net, as it is called -/
structure MCal (P : Program) (w : World) (K : PySem.W.Frag) (mg : Str → Option Value) (base : Heap) (CX : CXT) (k : Nat) (C : Addr) (x : Str) (ps : List Str) (sp : Sp) : Prop where
  ex : ∃ f fd, Meth K C x f ∧ Binds K fd ps [] ∧ FnOk P w K mg base CX k f fd ps sp
theorem nchk (n : Int) (tl ol ds : Addr) : (flds n tl ol ds).lookup ("check_house" : Str) = none := flds_no n tl ol ds (by decide +kernel) (by decide +kernel) (by decide +kernel) (by decide +kernel)
theorem ok_out {f C CE : Addr} {fd : FuncData} (F : Fun K "out" "Net.out" sOut f fd) (T : NT K mg C) (M : MCal P w K mg base (CXf P w) 4 C "check_house" ["self", "thing"] (spRefuse K C CE fun x => [x])) :
    FnOk P w K mg base (CXf P w) 5 f fd ["self", "house"] (spRefuse K C CE fun x => [x]) := by
  obtain ⟨fM, fdM, mM, bM, GM⟩ := M.ex
  refine F.okX scOut (fun vs H Q E h => ?_) (fun cdv A outer s H vs Q E hr h => ?_)
  · obtain ⟨p, n, x, o, rfl, _⟩ := h
    rfl
  · obtain ⟨p, n, x, o, rfl, N, wh, hw, k⟩ := h
    obtain ⟨⟨dx, tl, ol, ds, h1, _⟩⟩ := id N
    refine ⟨_, pss_cons (ps_expr (pe_meth (pv 0) T.cl mM GM hr bM .nil (passX (E' := E) fun _ _ _ z => z) (pa_cons (pv 1) pa_nil))) pss_never, ?_⟩
    exact ⟨_, rfl, p, dx, _, rfl, h1, nchk _ _ _ _, _, rfl, p, n, x, o, rfl, N, wh, hw, k⟩
end
end K19

set_option Elab.async false
set_option linter.all false
set_option maxRecDepth 100000
set_option maxHeartbeats 4000000
namespace K19
open PySem L2
abbrev sCTies : Stmt := top 26
abbrev sTie : Stmt := top 27
abbrev sBal : Stmt := top 28
def tie (n i : Nat) : Int × Int := (ringTies n).getD i (0, 0)
theorem tie_eq {n i : Nat} (h : i < n) : tie n i = ((i : Int), (((i + 1) % n : Nat) : Int)) := by
  unfold tie ringTies
  rw [List.getD_eq_getElem?_getD, List.getElem?_map, List.getElem?_range h]
  rfl
/-- the ring's ties as a list at l -/
def TiesAt (H : Hp) (l : Addr) (n : Nat) : Prop := ∃ as : List Addr, H l = some (.lst (as.map V.ref)) ∧ as.length = n ∧ ∀ i, i < n → H (as.getD i 0) = some (.tup [.int (tie n i).1, .int (tie n i).2])
theorem TiesAt.same {H H' : Hp} {l : Addr} {n : Nat} (h : TiesAt H l n) (e : Same H H') : TiesAt H' l n :=
  let ⟨as, a, b, c⟩ := h; ⟨as, e _ _ a, b, fun i hi => e _ _ (c i hi)⟩
theorem getAs {as : List Addr} {i : Nat} {x : V} (h : (as.map V.ref)[i]? = some x) : i < as.length ∧ x = .ref (as.getD i 0) := by
  rw [List.getElem?_map] at h
  cases e : as[i]? with
  | none => rw [e] at h; cases h
  | some a =>
    rw [e] at h
    refine ⟨(List.getElem?_eq_some_iff.mp e).1, ?_⟩
    rw [List.getD_eq_getElem?_getD, e]
    exact (Option.some.inj h).symm
/-! ### facts on the rings, told by the kernel -/
def ringSetOk (P : Program) (w : World) (n : Nat) : Bool := match setRun true ((ringTies n).map (pairHash P w)), setRun false ((ringTies n).map (pairHash P w)) with
  | some (a, _), some (b, _) => a == b && a.size == n
  | _, _ => false
theorem rs2 (P : Program) (w : World) : ringSetOk P w 2 = true := by kernel_rfl
theorem rs3 (P : Program) (w : World) : ringSetOk P w 3 = true := by kernel_rfl
theorem rs4 (P : Program) (w : World) : ringSetOk P w 4 = true := by kernel_rfl
theorem rs5 (P : Program) (w : World) : ringSetOk P w 5 = true := by kernel_rfl
theorem rs6 (P : Program) (w : World) : ringSetOk P w 6 = true := by kernel_rfl
theorem rs7 (P : Program) (w : World) : ringSetOk P w 7 = true := by kernel_rfl
theorem rs8 (P : Program) (w : World) : ringSetOk P w 8 = true := by kernel_rfl
theorem rs9 (P : Program) (w : World) : ringSetOk P w 9 = true := by kernel_rfl
theorem rs10 (P : Program) (w : World) : ringSetOk P w 10 = true := by kernel_rfl
theorem rs11 (P : Program) (w : World) : ringSetOk P w 11 = true := by kernel_rfl
theorem rs12 (P : Program) (w : World) : ringSetOk P w 12 = true := by kernel_rfl
theorem rs13 (P : Program) (w : World) : ringSetOk P w 13 = true := by kernel_rfl
theorem rs14 (P : Program) (w : World) : ringSetOk P w 14 = true := by kernel_rfl
theorem rs15 (P : Program) (w : World) : ringSetOk P w 15 = true := by kernel_rfl
theorem rs16 (P : Program) (w : World) : ringSetOk P w 16 = true := by kernel_rfl
theorem rs17 (P : Program) (w : World) : ringSetOk P w 17 = true := by kernel_rfl
theorem rs18 (P : Program) (w : World) : ringSetOk P w 18 = true := by kernel_rfl
theorem rs19 (P : Program) (w : World) : ringSetOk P w 19 = true := by kernel_rfl
theorem rs20 (P : Program) (w : World) : ringSetOk P w 20 = true := by kernel_rfl
theorem rs21 (P : Program) (w : World) : ringSetOk P w 21 = true := by kernel_rfl
theorem rs22 (P : Program) (w : World) : ringSetOk P w 22 = true := by kernel_rfl
theorem rs23 (P : Program) (w : World) : ringSetOk P w 23 = true := by kernel_rfl
theorem rs24 (P : Program) (w : World) : ringSetOk P w 24 = true := by kernel_rfl
theorem rs25 (P : Program) (w : World) : ringSetOk P w 25 = true := by kernel_rfl
theorem rs26 (P : Program) (w : World) : ringSetOk P w 26 = true := by kernel_rfl
theorem rs27 (P : Program) (w : World) : ringSetOk P w 27 = true := by kernel_rfl
theorem rs28 (P : Program) (w : World) : ringSetOk P w 28 = true := by kernel_rfl
theorem rs29 (P : Program) (w : World) : ringSetOk P w 29 = true := by kernel_rfl
theorem rs30 (P : Program) (w : World) : ringSetOk P w 30 = true := by kernel_rfl
theorem rs31 (P : Program) (w : World) : ringSetOk P w 31 = true := by kernel_rfl
theorem rs32 (P : Program) (w : World) : ringSetOk P w 32 = true := by kernel_rfl
theorem ringSets (P : Program) (w : World) : ∀ n, 2 ≤ n → n ≤ 32 → ringSetOk P w n = true
  | 2, _, _ => rs2 P w
  | 3, _, _ => rs3 P w
  | 4, _, _ => rs4 P w
  | 5, _, _ => rs5 P w
  | 6, _, _ => rs6 P w
  | 7, _, _ => rs7 P w
  | 8, _, _ => rs8 P w
  | 9, _, _ => rs9 P w
  | 10, _, _ => rs10 P w
  | 11, _, _ => rs11 P w
  | 12, _, _ => rs12 P w
  | 13, _, _ => rs13 P w
  | 14, _, _ => rs14 P w
  | 15, _, _ => rs15 P w
  | 16, _, _ => rs16 P w
  | 17, _, _ => rs17 P w
  | 18, _, _ => rs18 P w
  | 19, _, _ => rs19 P w
  | 20, _, _ => rs20 P w
  | 21, _, _ => rs21 P w
  | 22, _, _ => rs22 P w
  | 23, _, _ => rs23 P w
  | 24, _, _ => rs24 P w
  | 25, _, _ => rs25 P w
  | 26, _, _ => rs26 P w
  | 27, _, _ => rs27 P w
  | 28, _, _ => rs28 P w
  | 29, _, _ => rs29 P w
  | 30, _, _ => rs30 P w
  | 31, _, _ => rs31 P w
  | 32, _, _ => rs32 P w
  | 0, h, _ => absurd h (by decide)
  | 1, h, _ => absurd h (by decide)
  | n + 33, _, h => absurd h (by omega)
theorem ring_set {P : Program} {w : World} {n : Nat} (h1 : 2 ≤ n) (h2 : n ≤ 32) : ∃ (hsN : Array Int) (tN : Bool → SetTable), hsN.size = n ∧ ∀ led, setRun led ((ringTies n).map (pairHash P w)) = some (hsN, tN led) := by
  have h := ringSets P w n h1 h2
  unfold ringSetOk at h
  split at h
  · rename_i a ta b tb ea eb
    simp only [Bool.and_eq_true, beq_iff_eq] at h
    obtain ⟨rfl, h⟩ := h
    refine ⟨a, fun led => if led then ta else tb, h, fun led => ?_⟩
    cases led with
    | true => exact ea
    | false => exact eb
  · cases h
section
variable {P : Program} {w : World} {K : PySem.W.Frag} {mg : Str → Option Value} {base : Heap}
abbrev sUnl : Stmt := top 19
theorem scUnl : FnScope ["many", "one", "other"] ["many", "one", "other"] (defScope sUnl) := ⟨rfl, rfl, rfl, by decide +kernel, rfl, by decide +kernel, by decide +kernel⟩
def spUnl : Sp := fun vs H Q _ => ∃ (n a b : Int), vs = [.int n, .int a, .int b] ∧ 0 ≤ a ∧ a < n ∧ 0 ≤ b ∧ b < n ∧ a ≠ b ∧ Q (.bl true) H
theorem ok_unl {f : Addr} {fd : FuncData} (F : Fun K "are_unlike_houses" "are_unlike_houses" sUnl f fd) (HH : Cal P w K mg base CX0 3 "is_house" ["many", "thing"] (spHouse K)) :
    FnOk P w K mg base CX0 4 f fd ["many", "one", "other"] spUnl := by
  refine F.ok scUnl (fun vs H Q E h => ?_) (fun cdv A outer s H vs Q E hr h => ?_)
  · obtain ⟨n, a, b, rfl, _⟩ := h
    rfl
  · obtain ⟨n, a, b, rfl, a1, a2, b1, b2, hne, k⟩ := h
    refine ⟨_, pss_one (ps_ret (pe_and (pe_cal HH hr pass0 (pa_cons (pv 0) (pa_cons (pv 1) pa_nil))) (pe_and (pe_cal HH hr pass0 (pa_cons (pv 0) (pa_cons (pv 2) pa_nil))) (pe_one (pe_cmpR op_ne (pv 1) (pv 2) (nomark _)))))), ?_⟩
    refine ⟨_, rfl, _, rfl, _, _, n, rfl, .int a, _, rfl, ?_⟩
    rw [if_pos (show within (some a) 0 (n - 1) = true by unfold within; simp; omega)]
    refine ⟨_, rfl, _, rfl, _, _, n, rfl, .int b, _, rfl, ?_⟩
    rw [if_pos (show within (some b) 0 (n - 1) = true by unfold within; simp; omega)]
    refine ⟨_, rfl, _, rfl, rfl, ?_⟩
    have e : (!decide (V.int a = V.int b)) = true := by simp [hne]
    rw [e]
    exact k
theorem scTie : FnScope ["many", "thing"] ["many", "thing"] (defScope sTie) := ⟨rfl, rfl, rfl, by decide +kernel, rfl, by decide +kernel, by decide +kernel⟩
def spTie : Sp := fun vs H Q _ => ∃ (n : Int) (p : Addr) (a b : Int), vs = [.int n, .ref p] ∧ H p = some (.tup [.int a, .int b]) ∧ 0 ≤ a ∧ a < n ∧ 0 ≤ b ∧ b < n ∧ a ≠ b ∧ Q (.bl true) H
theorem ok_tie {f : Addr} {fd : FuncData} (F : Fun K "is_tie" "is_tie" sTie f fd) (R : Cal P w K mg base CX0 1 "is_row" ["thing", "length"] (spRow K)) (U : Cal P w K mg base CX0 4 "are_unlike_houses" ["many", "one", "other"] spUnl) :
    FnOk P w K mg base CX0 5 f fd ["many", "thing"] spTie := by
  refine F.ok scTie (fun vs H Q E h => ?_) (fun cdv A outer s H vs Q E hr h => ?_)
  · obtain ⟨n, p, a, b, rfl, _⟩ := h
    rfl
  · obtain ⟨n, p, a, b, rfl, hp, a1, a2, b1, b2, hne, k⟩ := h
    refine ⟨_, pss_one (ps_ret (pe_and (pe_cal R (hr.mono (by decide)) pass0 (pa_cons (pv 1) (pa_cons pe_int pa_nil)))
      (pe_one (pe_cal U hr pass0 (pa_cons (pv 0) (pa_cons (pe_ix ix_tup (pv 1) pe_int (fun _ _ => rfl)) (pa_cons (pe_ix ix_tup (pv 1) pe_int (fun _ _ => rfl)) pa_nil))))))), ?_⟩
    refine ⟨_, rfl, _, _, _, rfl, .tup hp, true, rfl, ?_⟩
    exact ⟨_, rfl, _, rfl, p, _, _, _, rfl, rfl, SqT.of hp, atI_nat (j := 0) rfl, _, rfl, p, _, _, _, rfl, rfl, SqT.of hp, atI_nat (j := 1) rfl, n, a, b, rfl, a1, a2, b1, b2, hne, k⟩
theorem scCTies : FnScope ["many", "ties", "tie"] ["many", "ties"] (defScope sCTies) := ⟨rfl, rfl, rfl, by decide +kernel, rfl, by decide +kernel, by decide +kernel⟩
theorem kit_list {K : PySem.W.Frag} : PySem.W.kitOne K (.type "list") (.type "list") = some true := by kernel_rfl
/-- no number of houses: NoNet; the ring's ties: nothing -/
def spCTies (K : PySem.W.Frag) (CE : Addr) : Sp := fun vs H Q E => (∃ x o y, vs = [x, y] ∧ Wh K H x o ∧ within o 2 32 = false ∧ E (.ref CE) none H) ∨
  ∃ (n : Nat) (l : Addr), vs = [.int n, .ref l] ∧ 2 ≤ n ∧ n ≤ 32 ∧ TiesAt H l n ∧ ∀ H', Same H H' → Q .non H'
theorem ok_cties {f CE : Addr} {fd : FuncData} (F : Fun K "check_ties" "check_ties" sCTies f fd) (B : Bl mg) (e : Er K mg "NoNet" CE) (gF : ∃ t, mg "FEWEST_HOUSES" = some (.int 2 t)) (gM : ∃ t, mg "MOST_HOUSES" = some (.int 32 t))
    (W : Cal P w K mg base CX0 2 "is_whole_within" ["thing", "least", "most"] (spWithin K)) (T : Cal P w K mg base CX0 5 "is_tie" ["many", "thing"] spTie) :
    FnOk P w K mg base (CXf P w) 6 f fd ["many", "ties"] (spCTies K CE) := by
  obtain ⟨tF, gF⟩ := gF
  obtain ⟨tM, gM⟩ := gM
  refine F.okX scCTies (fun vs H Q E h => ?_) (fun cdv A outer s H vs Q E hr h => ?_)
  · rcases h with ⟨x, o, y, rfl, _⟩ | ⟨n, l, rfl, _⟩ <;> rfl
  · refine ⟨_, pss_cons (ps_if (pt_not (pt_val (pe_cal W (hr.mono (by decide)) pass0 (pa_cons (pv 0) (pa_cons (pe_glob (v := .int 2) rfl gF ⟨_, rfl⟩) (pa_cons (pe_glob (v := .int 32) rfl gM ⟨_, rfl⟩) pa_nil))))))
        (pss_one (ps_raise (q := fun H1 => E (.ref CE) none H1) rfl e.ok rfl e.at_ (pa_cons pe_str pa_nil) (fun _ _ _ _ _ _ _ I m q => raise_xe I m q))) pss_nil)
      (pss_cons (ps_if (pt_not (pt_val (pe_callB call_isi (by rfl) B.isi PyProof.Rows.boot_isinstance (pa_cons (pv 1) (pa_cons (pe_bltn (v := .ty "list") rfl B.lst PyProof.Rows.boot_list rfl) pa_nil))))) pss_never pss_nil)
      (pss_cons (ps_for ownX rfl (pi_list (pv 1)) (pg_name (i := 2) scCTies.nd rfl (Or.inl rfl)) (pss_one (ps_if (pt_not (pt_val (pe_cal T hr pass0 (pa_cons (pv 0) (pa_cons (pv 2) pa_nil))))) pss_never pss_nil)))
      (pss_one (ps_if (pt_cmpR op_ne (pe_callB call_lenSet (by rfl) B.len PySem.boot_len (pa_cons (pe_callTy (call_setP rfl (by have := hr.un; show (A.deeper _).units + 8 < _; omega)) (by rfl) B.set PyProof.Rows.boot_set (pa_cons (pv 1) pa_nil)) pa_nil)) (pe_callB call_len_seq (by rfl) B.len PySem.boot_len (pa_cons (pv 1) pa_nil)) (nomark _)) pss_never pss_nil)))), ?_⟩
    rcases h with ⟨x, o, y, rfl, wh, hw, k⟩ | ⟨n, l, rfl, n1, n2, tt, k⟩
    · refine ⟨_, rfl, x, o, 2, 32, rfl, wh, _, rfl, ?_⟩
      rw [hw]
      exact iteT ⟨by show 1 ≤ sizeLine; decide, k⟩
    · refine ⟨_, rfl, _, _, 2, 32, rfl, .int n, _, rfl, ?_⟩
      rw [show within (some (n : Int)) 2 32 = true by unfold within; simp; omega]
      refine iteF ?_
      obtain ⟨as, hl, hn, ha⟩ := id tt
      refine ⟨_, rfl, _, _, _, .type "list", true, rfl, ⟨rfl, kit_list⟩, .of (.lst hl), _, rfl, iteF ?_⟩
      refine ⟨_, rfl, l, rfl, ⟨_, SqL.of hl⟩, for_list (K := K) (a := l) (xs := as.map V.ref) (fun i σ H2 => H2 = H ∧ ∃ v, σ = [some (.int n), some (.ref l), v]) ⟨rfl, none, rfl⟩ (fun i σ H2 _ ⟨e, _⟩ => by rw [e]; exact SqL.of hl) ?_ ?_⟩
      · rintro i x σ H2 hx ⟨rfl, v, rfl⟩
        obtain ⟨hi, rfl⟩ := getAs hx
        rw [hn] at hi
        have hp := ha i hi
        rw [tie_eq hi] at hp
        have hm : (i + 1) % n < n := Nat.mod_lt _ (by omega)
        have hne : ((i : Nat) : Int) ≠ (((i + 1) % n : Nat) : Int) := by
          intro z
          have z' : i = (i + 1) % n := by exact_mod_cast z
          by_cases hlast : i + 1 < n
          · rw [Nat.mod_eq_of_lt hlast] at z'; omega
          · have : i + 1 = n := by omega
            rw [this, Nat.mod_self] at z'; omega
        exact ⟨_, rfl, _, rfl, n, _, _, _, rfl, hp, by omega, by omega, by omega, by omega, hne, _, rfl, iteF ⟨rfl, _, rfl⟩⟩
      · rintro σ H2 ⟨rfl, v, rfl⟩
        obtain ⟨hsN, tN, hsz, hrun⟩ := ring_set (P := P) (w := w) n1 n2
        refine ⟨_, rfl, l, as, ringTies n, hsN, tN, rfl, SqL.of hl, by rw [ringTies_len, hn], fun i hi => SqT.of (ha i (by rw [ringTies_len] at hi; exact hi)), hrun, fun D hD => ?_⟩
        have nl : l ≠ D := ne_of_none hl hD
        refine ⟨D, hsN.size, rfl, upd_same, by omega, _, rfl, l, as.map V.ref, rfl, .inl (SqL.of (by rw [upd_ne nl]; exact hl)), rfl, _, rfl, ?_⟩
        have ez : (!decide (V.int ((hsN.size : Nat) : Int) = V.int (((as.map V.ref).length : Nat) : Int))) = false := by rw [hsz, List.length_map, hn]; simp
        rw [ez]
        refine iteF (k _ fun b o hb => ?_)
        rw [upd_ne (ne_of_none hb hD)]
        exact hb
end
end K19

set_option Elab.async false
set_option linter.all false
set_option maxRecDepth 100000
set_option maxHeartbeats 4000000
namespace K19
open PySem L2
abbrev sOuts : Stmt := top 29
def ringBalOk (n : Nat) : Bool := (List.range n).all fun h => ((ringTies n).filter fun y => decide (y.1 = (h : Int))).length == 1 && ((ringTies n).filter fun y => decide (y.2 = (h : Int))).length == 1 && ((ringTies n).filter fun y => decide (y.1 = (h : Int))).map (·.2) == [(((h + 1) % n : Nat) : Int)]
theorem ringBals : ((List.range 31).all fun k => ringBalOk (k + 2)) = true := by decide +kernel
theorem ring_bal {n h : Nat} (h1 : 2 ≤ n) (h2 : n ≤ 32) (hh : h < n) : ((ringTies n).filter fun y => decide (y.1 = (h : Int))).length = 1 ∧ ((ringTies n).filter fun y => decide (y.2 = (h : Int))).length = 1 ∧ ((ringTies n).filter fun y => decide (y.1 = (h : Int))).map (·.2) = [(((h + 1) % n : Nat) : Int)] := by
  have q := List.all_eq_true.mp ringBals (n - 2) (List.mem_range.mpr (by omega))
  rw [show n - 2 + 2 = n by omega] at q
  have q2 := List.all_eq_true.mp q h (List.mem_range.mpr hh)
  simp only [Bool.and_eq_true, beq_iff_eq] at q2
  exact ⟨q2.1.1, q2.1.2, q2.2⟩
theorem take_ties {n i : Nat} (h : i < n) : (ringTies n).take (i + 1) = (ringTies n).take i ++ [tie n i] := by
  rw [List.take_add_one]
  have : (ringTies n)[i]? = some (tie n i) := by
    unfold tie
    rw [List.getD_eq_getElem?_getD, List.getElem?_eq_getElem (by rw [ringTies_len]; exact h)]
    rfl
  rw [this]
  rfl
section
variable {P : Program} {w : World} {K : PySem.W.Frag} {mg : Str → Option Value} {base : Heap}
/-- [a of one, other in ties if t == h], a list comprehension over the ring's ties: what the walk of its clause wants -/
theorem ties_comp {n : Nat} {l D : Addr} {H : Hp} {g : TG} {tt : TT} {te : TE} {fin : Hp → Prop} {σB : St} (S : St → Prop) (p q : Int × Int → Int) (h : Int) (hD : H D = none) (T : TiesAt H l n) (hn : n ≤ 32) (s0 : S σB)
    (hg : ∀ i σ H2 (Kt : V → St → Hp → Prop) (Kf : St → Hp → Prop) (a : Addr), i < n → S σ → H2 a = some (.tup [.int (tie n i).1, .int (tie n i).2]) → (∀ σ2, S σ2 → p (tie n i) = h → Kt (.int (q (tie n i))) σ2 H2) → (∀ σ2, S σ2 → p (tie n i) ≠ h → Kf σ2 H2) →
      g (.ref a) σ H2 fun σ2 H2 => tt σ2 H2 fun b H3 => if b = true then te σ2 H3 fun v H4 => Kt v σ2 H4 else Kf σ2 H3)
    (hd : fin (upd H D (.lst ((((ringTies n).filter fun y => decide (p y = h)).map q).map V.int)))) : CompW (Itl K l) g tt te D fin σB (upd H D (.lst [])) := by
  obtain ⟨as, hl, hlen, ha⟩ := T
  have nl : l ≠ D := ne_of_none hl hD
  refine comp_list (xs := as.map V.ref) (fun i ys σ H2 => S σ ∧ ys = (((((ringTies n).take i).filter fun y => decide (p y = h)).map q).map V.int) ∧ H2 = upd H D (.lst ys)) ⟨s0, by simp, rfl⟩ (fun i ys σ H2 _ ⟨_, _, e⟩ => by rw [e]; exact SqL.of (by rw [upd_ne nl]; exact hl)) ?_ ?_
  · rintro i x ys σ H2 Kt Kf hx ⟨hS, ey, rfl⟩ kt kf
    obtain ⟨hi, rfl⟩ := getAs hx
    rw [hlen] at hi
    have hp := ha i hi
    have na : as.getD i 0 ≠ D := ne_of_none hp hD
    refine hg i σ _ Kt Kf _ hi hS (by rw [upd_ne na]; exact hp) (fun σ2 s2 e => ?_) (fun σ2 s2 e => ?_)
    · refine kt _ _ _ upd_same ?_ ⟨s2, ?_, ?_⟩
      · rw [ey, List.length_map, List.length_map]
        refine Nat.lt_of_le_of_lt (List.length_filter_le _ _) (Nat.lt_of_le_of_lt (List.length_take_le _ _) (Nat.lt_of_lt_of_le hi (Nat.le_trans hn (by decide))))
      · rw [ey, take_ties hi, List.filter_append, List.map_append, List.map_append]
        have : decide (p (tie n i) = h) = true := by simp [e]
        simp [List.filter_cons, this]
      · rw [upd_upd]
    · refine kf _ _ ⟨s2, ?_, rfl⟩
      have : decide (p (tie n i) = h) = false := by simp [e]
      rw [ey, take_ties hi, List.filter_append]
      simp [List.filter_cons, this]
  · rintro ys σ H2 ⟨_, ey, rfl⟩
    rw [List.length_map, hlen, List.take_of_length_le (by rw [ringTies_len]; exact Nat.le_refl _)] at ey
    rw [ey]
    exact hd
theorem nb3 : (["one", "other", "house"] : List Str).Nodup := by decide +kernel
theorem scBal : FnScope ["many", "ties", "house", "leading_out", "leading_in"] ["many", "ties"] (defScope sBal) := ⟨rfl, rfl, rfl, by decide +kernel, rfl, by decide +kernel, by decide +kernel⟩
def spBal : Sp := fun vs H Q _ => ∃ (n : Nat) (l : Addr), vs = [.int n, .ref l] ∧ 2 ≤ n ∧ n ≤ 32 ∧ TiesAt H l n ∧ ∀ H', Same H H' → Q .non H'
theorem ok_bal {f : Addr} {fd : FuncData} (F : Fun K "check_balance" "check_balance" sBal f fd) (B : Bl mg) (gM : ∃ t, mg "MOST_TIES_OUT" = some (.int 8 t)) :
    FnOk P w K mg base CX0 1 f fd ["many", "ties"] spBal := by
  obtain ⟨tM, gM⟩ := gM
  refine F.ok scBal (fun vs H Q E h => ?_) (fun cdv A outer s H vs Q E hr h => ?_)
  · obtain ⟨n, l, rfl, _⟩ := h
    rfl
  · obtain ⟨n, l, rfl, n1, n2, T, k⟩ := h
    refine' ⟨_, pss_one (ps_for PassesOwn.never rfl (pi_range1 rfl B.range (pa_cons (pv 0) pa_nil)) (pg_name (i := 2) scBal.nd rfl (Or.inr rfl))
      (pss_cons (ps_set (i := 3) scBal.nd rfl (Or.inl rfl) (pe_callB call_len_seq (by rfl) B.len PySem.boot_len (pa_cons ?c1 pa_nil)))
      (pss_cons (ps_set (i := 4) scBal.nd rfl (Or.inl rfl) (pe_callB call_len_seq (by rfl) B.len PySem.boot_len (pa_cons ?c2 pa_nil)))
      (pss_cons (ps_if (pt_cmpR op_ne (pv 3) (pv 4) (nomark _)) pss_never pss_nil)
      (pss_one (ps_if (pt_cmpR op_gt (pv 3) (pe_glob (v := .int 8) rfl gM ⟨_, rfl⟩) (nomark _)) pss_never pss_nil)))))), ?_⟩
    case c1 =>
      refine' pe_comp (g := gTup K 2 (gCons (gName 0) (gCons (gName 1) gNil))) (NB := ["one", "other", "house"]) (src := [none, none, some 2]) (blk_of (by kernel_rfl)) rfl (pi_list (pv 1)) ?g ?t ?e
      case g => exact fun cl C s₃ H₃ fp => pg_tup (n := 2) rfl (pgs_cons (pg_name (i := 0) nb3 rfl (Or.inl rfl) (Or.inr rfl)) (pgs_cons (pg_name (i := 1) nb3 rfl (Or.inl rfl) (Or.inr rfl)) pgs_nil))
      case t => exact fun cl C s₃ H₃ fp => pts_one (pt_cmpR op_eq (pv 0) (pv 2) (nomark _))
      case e => exact fun cl C s₃ H₃ fp => pv 0
    case c2 =>
      refine' pe_comp (g := gTup K 2 (gCons (gName 0) (gCons (gName 1) gNil))) (NB := ["one", "other", "house"]) (src := [none, none, some 2]) (blk_of (by kernel_rfl)) rfl (pi_list (pv 1)) ?g ?t ?e
      case g => exact fun cl C s₃ H₃ fp => pg_tup (n := 2) rfl (pgs_cons (pg_name (i := 0) nb3 rfl (Or.inl rfl) (Or.inr rfl)) (pgs_cons (pg_name (i := 1) nb3 rfl (Or.inl rfl) (Or.inr rfl)) pgs_nil))
      case t => exact fun cl C s₃ H₃ fp => pts_one (pt_cmpR op_eq (pv 1) (pv 2) (nomark _))
      case e => exact fun cl C s₃ H₃ fp => pv 1
    refine ⟨_, rfl, n, rfl, by omega, by omega, for_range (n := n) (lo := 0) (fun i σ H2 => Same H H2 ∧ ∃ a b c, σ = [some (.int n), some (.ref l), a, b, c]) ⟨Same.refl _, none, none, none, rfl⟩ ?_ ?_⟩
    · rintro i σ H2 hi ⟨sm, a, b, c, rfl⟩
      obtain ⟨r1, r2, _⟩ := ring_bal n1 n2 hi
      have T2 := T.same sm
      obtain ⟨as, hl, _⟩ := id T2
      refine ⟨_, rfl, l, rfl, ⟨_, SqL.of hl⟩, fun D hD => ties_comp (n := n) (fun σ => ∃ a b, σ = [a, b, some (.int (0 + (i : Int)))]) (·.1) (·.1) (0 + (i : Int)) hD T2 n2 ⟨_, _, rfl⟩ ?_ ?_⟩
      · rintro j σ H3 Kt Kf a' hj ⟨x, y, rfl⟩ ha kt kf
        refine ⟨a', _, rfl, SqT.of ha, rfl, _, _, rfl, _, _, rfl, rfl, ?_⟩
        refine ⟨_, rfl, _, rfl, rfl, _, rfl, ?_⟩
        refine ite2 (fun e => ?_) (fun e => ?_)
        · exact ⟨_, rfl, kt _ ⟨_, _, rfl⟩ (by simpa using e)⟩
        · exact kf _ ⟨_, _, rfl⟩ (by simpa using e)
      · refine ⟨D, _, rfl, .inl (SqL.of upd_same), ?_⟩
        have sm2 : Same H (upd H2 D (.lst ((((ringTies n).filter fun y => decide (y.1 = 0 + (i : Int))).map (·.1)).map V.int))) := fun b' o hb => by rw [upd_ne (ne_of_none (sm _ _ hb) hD)]; exact sm _ _ hb
        have T3 := T.same sm2
        obtain ⟨as3, hl3, _⟩ := id T3
        refine ⟨_, rfl, l, rfl, ⟨_, SqL.of hl3⟩, fun D' hD' => ties_comp (n := n) (fun σ => ∃ a b, σ = [a, b, some (.int (0 + (i : Int)))]) (·.2) (·.2) (0 + (i : Int)) hD' T3 n2 ⟨_, _, rfl⟩ ?_ ?_⟩
        · rintro j σ H3 Kt Kf a' hj ⟨x, y, rfl⟩ ha kt kf
          refine ⟨a', _, rfl, SqT.of ha, rfl, _, _, rfl, _, _, rfl, rfl, ?_⟩
          refine ⟨_, rfl, _, rfl, rfl, _, rfl, ?_⟩
          refine ite2 (fun e => ?_) (fun e => ?_)
          · exact ⟨_, rfl, kt _ ⟨_, _, rfl⟩ (by simpa using e)⟩
          · exact kf _ ⟨_, _, rfl⟩ (by simpa using e)
        · refine ⟨D', _, rfl, .inl (SqL.of upd_same), ?_⟩
          rw [Int.zero_add] at *
          have q1 : ((((ringTies n).filter fun y => decide (y.1 = (i : Int))).map (·.1)).map V.int).length = 1 := by rw [List.length_map, List.length_map]; exact r1
          have q2 : ((((ringTies n).filter fun y => decide (y.2 = (i : Int))).map (·.2)).map V.int).length = 1 := by rw [List.length_map, List.length_map]; exact r2
          refine ⟨_, rfl, _, rfl, rfl, _, rfl, ?_⟩
          rw [q1, q2]
          refine iteF ?_
          refine ⟨_, rfl, _, _, rfl, rfl, _, rfl, iteF ⟨fun b' o hb => ?_, _, _, _, rfl⟩⟩
          rw [upd_ne (ne_of_none (sm2 _ _ hb) hD')]; exact sm2 _ _ hb
    · rintro σ H2 ⟨sm, a, b, c, rfl⟩
      exact k H2 sm
end
end K19

set_option Elab.async false
set_option linter.all false
set_option maxRecDepth 100000
set_option maxHeartbeats 4000000
namespace K19
open PySem L2
/-- the lambda of houses_out, by its parts -/
def lamE : Expr := match (defBody sOuts).getD 1 (.Pass ⟨0, 0, 0, 0⟩) with
  | .Return (some (.Call _ _ (k :: _) _)) _ => k.value
  | _ => .Name "x" ⟨0, 0, 0, 0⟩
def lamArgs : Arguments := match lamE with
  | .Lambda a _ _ _ => a
  | _ => { posonlyargs := [], args := [], vararg := none, kwonlyargs := [], kw_defaults := [], kwarg := none, defaults := [] }
def lamBody : Expr := match lamE with
  | .Lambda _ b _ _ => b
  | e => e
def lamSc : Scope := match lamE with
  | .Lambda _ _ s _ => s
  | _ => { kind := .function, names := [], isGenerator := false, isCoroutine := false }
def lamPos : Pos := match lamE with
  | .Lambda _ _ _ p => p
  | _ => ⟨0, 0, 0, 0⟩
def outsQ : Str := ("houses_out" : Str) ++ ".<locals>." ++ "<lambda>"
abbrev Tab (Pt : Addr) (H : Hp) : Prop := TabAt lamPos outsQ Pt H
/-- all but the table stays -/
def SameT (Pt : Addr) (H H' : Hp) : Prop := ∀ b o, H b = some o → b ≠ Pt → H' b = some o
theorem SameT.trans {Pt : Addr} {H H1 H2 : Hp} (a : SameT Pt H H1) (b : SameT Pt H1 H2) : SameT Pt H H2 := fun c o h n => b c o (a c o h n) n
theorem SameT.of {Pt : Addr} {H H' : Hp} (a : Same H H') : SameT Pt H H' := fun c o h _ => a c o h
theorem Tab.not {Pt : Addr} {H : Hp} (t : Tab Pt H) {b : Addr} {o : HO} (h : H b = some o) (n : ∀ ps, o ≠ .tbl ps) : b ≠ Pt := by
  rintro rfl
  rcases t with z | ⟨c, z, _⟩ <;> · rw [h] at z; exact n _ (Option.some.inj z)
theorem Tab.same {Pt : Addr} {H H' : Hp} (t : Tab Pt H) (e : Same H H') : Tab Pt H' := by
  rcases t with z | ⟨c, z, y⟩
  · exact .inl (e _ _ z)
  · exact .inr ⟨c, e _ _ z, e _ _ y⟩
theorem kOut_one {za zb x : Int} {out : List Int} (h : KOut za zb [x] out) : out = [x] := by
  obtain ⟨ps, hp, rfl, _⟩ := h
  rw [List.map_cons, List.map_nil] at hp
  rw [List.perm_singleton.mp hp]
  rfl
section
variable {P : Program} {w : World} {K : PySem.W.Frag} {mg : Str → Option Value} {base : Heap}
theorem scOuts : FnScope ["many", "ties", "house", "others"] ["many", "ties", "house"] (defScope sOuts) := ⟨rfl, rfl, rfl, by decide +kernel, rfl, by decide +kernel, by decide +kernel⟩
def spOuts (Pt : Addr) : Sp := fun vs H Q _ => ∃ (n : Nat) (l : Addr) (h : Nat), vs = [.int n, .ref l, .int h] ∧ 2 ≤ n ∧ n ≤ 32 ∧ h < n ∧ TiesAt H l n ∧ Tab Pt H ∧
  ∀ (r : Addr) (H' : Hp), Tab Pt H' → SameT Pt H H' → H r = none → H' r = some (.lst [.int (((h + 1) % n : Nat) : Int)]) → Q (.ref r) H'
theorem ok_outs {f c Pt : Addr} {fd : FuncData} (F : FunC K "houses_out" "houses_out" sOuts f fd c) (B : Bl mg) (kb : K.In base) (hb : BmOk mg base) (hc : PySem.W.codeHdIn K c Pt = true) :
    FnOk P w K mg base CX0 1 f fd ["many", "ties", "house"] (spOuts Pt) := by
  refine F.ok scOuts (fun vs H Q E h => ?_) (fun A outer s H vs Q E hr h => ?_)
  · obtain ⟨n, l, h, rfl, _⟩ := h
    rfl
  · obtain ⟨n, l, h, rfl, n1, n2, hh, T, tb, k⟩ := h
    have LS : LamS (cxOf CX0 P w K mg base ["many", "ties", "house", "others"] "houses_out" (defScope sOuts) f (.ref c) A outer s H E).nox outsQ lamArgs lamBody lamSc "other" "house" "many" 2 0 :=
      ⟨⟨_, _, _, _, _, rfl⟩, fun _ _ _ _ _ => rfl, rfl, rfl, rfl, rfl, rfl, rfl, rfl, by decide +kernel, by decide +kernel, by decide +kernel, rfl, rfl, rfl, by decide, ⟨by decide, by decide⟩, ⟨by decide, by decide⟩⟩
    refine' ⟨_, pss_cons (ps_setComp (i := 3) (g := gTup K 2 (gCons (gName 0) (gCons (gName 1) gNil))) (NB := ["one", "other", "house"]) (src := [none, none, some 2]) (blk_of (by kernel_rfl)) rfl (pi_list (pv 1)) ?g ?t ?e scOuts.nd rfl rfl rfl)
      (pss_one (ps_ret (pe_callBK (call_sortK LS hr) rfl B.sorted PyProof.Rows.boot_sorted (pa_cons (pv 3) pa_nil) (pk_cons (pe_lam (NB := ["other", "house", "many"]) (src := [none, some 2, some 0]) (lamC_of kb hb hc) (blk_of (by kernel_rfl))) pk_nil)))), ?_⟩
    case g => exact fun cl C s₃ H₃ fp => pg_tup (n := 2) rfl (pgs_cons (pg_name (i := 0) nb3 rfl (Or.inl rfl) (Or.inr rfl)) (pgs_cons (pg_name (i := 1) nb3 rfl (Or.inl rfl) (Or.inr rfl)) pgs_nil))
    case t => exact fun cl C s₃ H₃ fp => pts_one (pt_cmpR op_eq (pv 0) (pv 2) (nomark _))
    case e => exact fun cl C s₃ H₃ fp => pv 1
    obtain ⟨as, hl, _⟩ := id T
    obtain ⟨_, _, r3⟩ := ring_bal n1 n2 hh
    refine ⟨_, rfl, l, rfl, ⟨_, SqL.of hl⟩, fun D hD => ties_comp (n := n) (fun σ => ∃ a b, σ = [a, b, some (.int (h : Int))]) (·.1) (·.2) (h : Int) hD T n2 ⟨_, _, rfl⟩ ?_ ?_⟩
    · rintro j σ H3 Kt Kf a' hj ⟨x, y, rfl⟩ ha kt kf
      refine ⟨a', _, rfl, SqT.of ha, rfl, _, _, rfl, _, _, rfl, rfl, ?_⟩
      refine ⟨_, rfl, _, rfl, rfl, _, rfl, ?_⟩
      refine ite2 (fun e => ?_) (fun e => ?_)
      · exact ⟨_, rfl, kt _ ⟨_, _, rfl⟩ (by simpa using e)⟩
      · exact kf _ ⟨_, _, rfl⟩ (by simpa using e)
    · rw [r3]
      have sm : Same H (upd H D (.lst [.int (((h + 1) % n : Nat) : Int)])) := fun b o e => by rw [upd_ne (ne_of_none e hD)]; exact e
      refine ⟨_, rfl, tb.same sm, fun f' c' H2 t2' old hc' hf' => ?_⟩
      have t2 : Tab Pt H2 := t2'
      have hD2 : H2 D = some (.lst [.int (((h + 1) % n : Nat) : Int)]) := old _ _ upd_same ((tb.same sm).not upd_same (by intro ps z; cases z))
      refine ⟨D, f', c', [(((h + 1) % n : Nat) : Int)], h, n, rfl, rfl, SqL.of hD2, (by show 1 < 64; decide), hf', hc', rfl, rfl, by omega, fun r out hr' ko => ?_⟩
      rw [kOut_one ko]
      have sm2 : Same H2 (upd H2 r (.lst ([(((h + 1) % n : Nat) : Int)].map V.int))) := fun b o e => by rw [upd_ne (ne_of_none e hr')]; exact e
      refine k r _ (t2.same sm2) (fun b o e hb => sm2 _ _ (old b o (sm _ _ e) hb)) ?_ upd_same
      cases z : H r with
      | none => rfl
      | some o =>
        by_cases hP : r = Pt
        · rcases t2 with q | ⟨_, q, _⟩ <;> · rw [← hP, hr'] at q; cases q
        · rw [old r o (sm _ _ z) hP] at hr'; cases hr'
end
end K19

set_option Elab.async false
set_option linter.all false
set_option maxRecDepth 100000
set_option maxHeartbeats 4000000
namespace K19
open PySem L2
abbrev sDist : Stmt := top 30
abbrev sReach : Stmt := top 31
/-! ### going out along the ring -/
def rel (n s x : Nat) : Nat := if s ≤ x then x - s else x + n - s
def ppos (n s i : Nat) : Nat := if s + i < n then s + i else s + i - n
theorem rel_pos {n s i : Nat} (hs : s < n) (hi : i < n) : rel n s (ppos n s i) = i := by
  unfold rel ppos
  split <;> split <;> omega
theorem pos_rel {n s x : Nat} (hs : s < n) (hx : x < n) : ppos n s (rel n s x) = x := by
  unfold rel ppos
  split <;> split <;> omega
theorem rel_lt {n s x : Nat} (hs : s < n) (hx : x < n) : rel n s x < n := by
  unfold rel
  split <;> omega
theorem pos_lt {n s i : Nat} (hs : s < n) (hi : i < n) : ppos n s i < n := by
  unfold ppos
  split <;> omega
theorem pos_next {n s i : Nat} (hs : s < n) (hi : i < n) : (ppos n s i + 1) % n = if i + 1 < n then ppos n s (i + 1) else s := by
  unfold ppos
  by_cases h1 : s + i < n
  · rw [if_pos h1]
    by_cases h2 : s + i + 1 < n
    · rw [Nat.mod_eq_of_lt h2, if_pos (by omega), if_pos (by omega)]; omega
    · have e : s + i + 1 = n := by omega
      rw [e, Nat.mod_self]
      by_cases h3 : i + 1 < n
      · rw [if_pos h3, if_neg (by omega)]; omega
      · rw [if_neg h3]; omega
  · rw [if_neg h1]
    have h2 : s + i - n + 1 < n := by omega
    rw [Nat.mod_eq_of_lt h2]
    by_cases h3 : i + 1 < n
    · rw [if_pos h3, if_neg (by omega)]; omega
    · rw [if_neg h3]; omega
def distV (n s i x : Nat) : V := if rel n s x ≤ i then .int (rel n s x : Int) else .non
def distL (n s i : Nat) : List V := (List.range n).map (distV n s i)
def reachL (n s i : Nat) : List V := (List.range i).map fun j => V.int (ppos n s j : Int)
theorem distL_len {n s i : Nat} : (distL n s i).length = n := by unfold distL; rw [List.length_map, List.length_range]
theorem distL_get {n s i x : Nat} (h : x < n) : (distL n s i)[x]? = some (distV n s i x) := by
  unfold distL
  rw [List.getElem?_map, List.getElem?_range h]
  rfl
theorem distL_set {n s i : Nat} (hs : s < n) (hi : i < n) (v : V) (hv : v = .int (i : Int)) (old : List V) (ho : old.length = n) (hx : ∀ x, x < n → x ≠ ppos n s i → old[x]? = some (distV n s i x)) : old.set (ppos n s i) v = distL n s i := by
  apply List.ext_getElem?
  intro x
  by_cases hxn : x < n
  · rw [distL_get hxn]
    by_cases e : x = ppos n s i
    · subst e
      rw [List.getElem?_set_self (by rw [ho]; exact hxn), hv]
      unfold distV
      rw [rel_pos hs hi, if_pos (Nat.le_refl _)]
    · rw [List.getElem?_set_ne (fun z => e z.symm)]
      exact hx x hxn e
  · rw [List.getElem?_eq_none (by rw [List.length_set, ho]; omega), List.getElem?_eq_none (by rw [distL_len]; omega)]
theorem distV_next {n s i x : Nat} (hs : s < n) (hx : x < n) (hi : i + 1 < n) (hne : x ≠ ppos n s (i + 1)) : distV n s i x = distV n s (i + 1) x := by
  have h : rel n s x ≠ i + 1 := fun z => hne (by rw [← z, pos_rel hs hx])
  unfold distV
  by_cases h1 : rel n s x ≤ i
  · rw [if_pos h1, if_pos (by omega)]
  · rw [if_neg h1, if_neg (by omega)]
theorem distV_first {n s x : Nat} (hs : s < n) (hx : x < n) (hne : x ≠ ppos n s 0) : V.non = distV n s 0 x := by
  have h : rel n s x ≠ 0 := fun z => hne (by rw [← z, pos_rel hs hx])
  unfold distV
  rw [if_neg (by omega)]
theorem reachL_next {n s i : Nat} : reachL n s (i + 1) = reachL n s i ++ [V.int (ppos n s i : Int)] := by
  unfold reachL
  rw [List.range_succ, List.map_append]
  rfl
theorem reachL_len {n s i : Nat} : (reachL n s i).length = i := by unfold reachL; rw [List.length_map, List.length_range]
theorem reachL_get {n s i j : Nat} (h : j < i) : (reachL n s i)[j]? = some (V.int (ppos n s j : Int)) := by
  unfold reachL
  rw [List.getElem?_map, List.getElem?_range h]
  rfl
end K19

set_option Elab.async false
set_option linter.all false
set_option maxRecDepth 100000
set_option maxHeartbeats 4000000
namespace K19
open PySem L2
/-- the lists of the houses to which ties lead -/
def OutsAt (H : Hp) (ol : Addr) (n : Nat) : Prop := ∃ bs : List Addr, H ol = some (.lst (bs.map V.ref)) ∧ bs.length = n ∧ ∀ h, h < n → H (bs.getD h 0) = some (.lst [.int (((h + 1) % n : Nat) : Int)])
theorem OutsAt.same {H H' : Hp} {ol : Addr} {n : Nat} (x : OutsAt H ol n) (e : Same H H') : OutsAt H' ol n := let ⟨bs, a, b, c⟩ := x; ⟨bs, e _ _ a, b, fun h hh => e _ _ (c h hh)⟩
theorem ixN_nat {n j : Nat} (h : j < n) : ixN n (j : Int) = some j := by
  unfold ixN
  rw [if_pos (by omega), if_pos (by omega)]
  simp
def slotN (σ : St) : Nat := match σ[4]? with
  | some (some (V.int z)) => z.toNat
  | _ => 0
theorem nbO : (["others"] : List Str).Nodup := by decide +kernel
section
variable {P : Program} {w : World} {K : PySem.W.Frag} {mg : Str → Option Value} {base : Heap}
theorem scDist : FnScope ["out_lists", "start", "distances", "reached", "at", "house", "other"] ["out_lists", "start"] (defScope sDist) := ⟨rfl, rfl, rfl, by decide +kernel, rfl, by decide +kernel, by decide +kernel⟩
def spDist : Sp := fun vs H Q _ => ∃ (ol : Addr) (n s : Nat), vs = [.ref ol, .int s] ∧ 2 ≤ n ∧ n ≤ 32 ∧ s < n ∧ OutsAt H ol n ∧
  ∀ (r : Addr) (H' : Hp), Same H H' → H r = none → H' r = some (.lst (distL n s n)) → Q (.ref r) H'
theorem ok_dist {f : Addr} {fd : FuncData} (F : Fun K "distances_from" "distances_from" sDist f fd) (B : Bl mg) : FnOk P w K mg base CX0 1 f fd ["out_lists", "start"] spDist := by
  refine F.ok scDist (fun vs H Q E h => ?_) (fun cdv A outer s H vs Q E hr h => ?_)
  · obtain ⟨ol, n, s, rfl, _⟩ := h
    rfl
  · obtain ⟨ol, n, st, rfl, n1, n2, hs, O, k⟩ := h
    refine' ⟨_, pss_cons (ps_setComp (i := 2) (g := gName 0) (NB := ["others"]) (src := [none]) (blk_of (by kernel_rfl)) rfl (pi_list (pv 0)) ?g ?t ?e scDist.nd rfl rfl rfl)
      (pss_cons (ps_asg pe_int (pg_sub (pv 2) (pv 1) set_list))
      (pss_cons (ps_set (i := 3) scDist.nd rfl (Or.inl rfl) (pe_lst (pa_cons (pv 1) pa_nil)))
      (pss_cons (ps_set (i := 4) scDist.nd rfl (Or.inl rfl) pe_int)
      (pss_cons (ps_while PassesOwn.never (pt_cmpR op_lt (pv 4) (pe_callB call_len_seq (by rfl) B.len PySem.boot_len (pa_cons (pv 3) pa_nil)) (nomark _))
        (pss_cons (ps_set (i := 5) scDist.nd rfl (Or.inl rfl) (pe_ix ix_list (pv 3) (pv 4) (fun _ _ => rfl)))
        (pss_cons (ps_for PassesOwn.never rfl (pi_list (pe_ix ix_list (pv 0) (pv 5) (fun _ _ => rfl))) (pg_name (i := 6) scDist.nd rfl (Or.inl rfl))
          (pss_one (ps_if (pt_cmpR op_isN (pe_ix ix_list (pv 2) (pv 6) (fun _ _ => rfl)) pe_non (nomark _))
            (pss_cons (ps_asg (pe_op op_add (pe_ix ix_list (pv 2) (pv 5) (fun _ _ => rfl)) pe_int) (pg_sub (pv 2) (pv 6) set_list))
            (pss_one (ps_expr (pe_bm PySem.F.plainAttrs_list PySem.F.slot_list_append PySem.F.type_list_append mt_append (pv 3) (pa_cons (pv 6) pa_nil))))) pss_nil)))
        (pss_one (ps_aug (i := 4) scDist.nd rfl (Or.inl rfl) pe_int ip_add)))))
      (pss_one (ps_ret (pv 2))))))), ?_⟩
    case g => exact fun cl C s₃ H₃ fp => pg_name (i := 0) nbO rfl (Or.inl rfl) (Or.inr rfl)
    case t => exact fun cl C s₃ H₃ fp => pts_nil
    case e => exact fun cl C s₃ H₃ fp => pe_non
    obtain ⟨bs, hol, hbl, hbs⟩ := id O
    -- distances = [None for others in out_lists]
    refine ⟨_, rfl, ol, rfl, ⟨_, SqL.of hol⟩, fun D hD => ?_⟩
    have nol : ol ≠ D := ne_of_none hol hD
    refine comp_list (xs := bs.map V.ref) (fun i ys σ H2 => (∃ a, σ = [a]) ∧ ys = List.replicate i V.non ∧ H2 = upd H D (.lst ys)) ⟨⟨_, rfl⟩, rfl, rfl⟩ (fun i ys σ H2 _ ⟨_, _, e⟩ => by rw [e]; exact SqL.of (by rw [upd_ne nol]; exact hol)) ?_ ?_
    · rintro i x ys σ H2 Kt Kf hx ⟨⟨a, rfl⟩, rfl, rfl⟩ kt kf
      have hi := (getAs hx).1
      refine kt _ _ _ upd_same ?_ ⟨⟨_, rfl⟩, ?_, by rw [upd_upd]⟩
      · rw [List.length_replicate]
        exact Nat.lt_of_lt_of_le hi (by rw [hbl]; exact Nat.le_trans n2 (by decide))
      · rw [List.replicate_succ']
    · rintro ys σ H2 ⟨_, rfl, rfl⟩
      rw [List.length_map, hbl]
      -- distances[start] = 0
      refine ⟨_, rfl, _, rfl, D, _, st, st, rfl, rfl, upd_same, by rw [List.length_replicate]; exact ixN_nat hs, ?_⟩
      rw [upd_upd]
      have e0 : (List.replicate n V.non).set st (V.int 0) = distL n st 0 := by
        have hp : ppos n st 0 = st := by unfold ppos; rw [if_pos (by omega)]; rfl
        have := distL_set (i := 0) hs (by omega) (.int 0) rfl (List.replicate n V.non) (by simp) (fun x hx hne => by rw [← distV_first hs hx hne]; rw [List.getElem?_replicate, if_pos hx])
        rw [hp] at this
        exact this
      rw [e0]
      -- reached = [start]; at = 0
      refine ⟨_, rfl, by show 1 ≤ sizeLine; decide, fun R hR => ?_⟩
      have nDR : D ≠ R := ne_of_none (H := upd H D (.lst (distL n st 0))) upd_same hR
      have hR0 : H R = none := by rw [upd_ne nDR.symm] at hR; exact hR
      -- the loop
      refine while_by (fun σ H2 => ∃ i, i ≤ n ∧ (∃ a b, σ = [some (.ref ol), some (.int st), some (.ref D), some (.ref R), some (.int (i : Int)), a, b]) ∧ Same H H2 ∧ H2 D = some (.lst (distL n st i)) ∧ H2 R = some (.lst (reachL n st (if i < n then i + 1 else n))))
        (fun σ _ => n - slotN σ) ⟨0, Nat.zero_le _, ⟨none, none, rfl⟩, fun b o e => ?_, ?_, ?_⟩ ?_ ?_
      · rw [upd_ne (ne_of_none e hR0), upd_ne (ne_of_none e hD)]; exact e
      · rw [upd_ne nDR, upd_same]
      · rw [upd_same, if_pos (by omega)]
        have hp : ppos n st 0 = st := by unfold ppos; rw [if_pos (by omega)]; rfl
        show _ = some (HO.lst [V.int (ppos n st 0 : Int)])
        rw [hp]
      · rintro σ H2 ⟨i, hi, ⟨a, b, rfl⟩, sm, hD2, hR2⟩
        refine ⟨_, rfl, _, rfl, R, _, rfl, .inl (SqL.of hR2), _, _, rfl, rfl, _, rfl, ?_⟩
        rw [reachL_len]
        by_cases hin : i < n
        · rw [if_pos hin]
          rw [if_pos hin] at hR2
          rw [show decide ((i : Int) < ((i + 1 : Nat) : Int)) = true by simp; omega]
          refine iteT ?_
          have hpn : ppos n st i < n := pos_lt hs hin
          -- house = reached[at]
          refine ⟨_, rfl, _, rfl, R, _, _, _, rfl, rfl, SqL.of hR2, atI_nat (reachL_get (Nat.lt_succ_self i)), ?_⟩
          -- for other in out_lists[house]
          have hb1 : (bs.map V.ref)[ppos n st i]? = some (.ref (bs.getD (ppos n st i) 0)) := by
            rw [List.getElem?_map, List.getD_eq_getElem?_getD, List.getElem?_eq_getElem (by rw [hbl]; exact hpn)]; rfl
          have hb2 := sm _ _ (hbs _ hpn)
          refine ⟨_, rfl, _, rfl, ol, _, _, _, rfl, rfl, SqL.of (sm _ _ hol), atI_nat hb1, _, rfl, ⟨_, SqL.of hb2⟩, ?_⟩
          have nbD : bs.getD (ppos n st i) 0 ≠ D := ne_of_none (hbs _ hpn) hD
          have nbR : bs.getD (ppos n st i) 0 ≠ R := ne_of_none (hbs _ hpn) hR0
          refine for_list (K := K) (xs := [.int (((ppos n st i + 1) % n : Nat) : Int)]) (fun j σ H3 => (∃ b, σ = [some (.ref ol), some (.int st), some (.ref D), some (.ref R), some (.int (i : Int)), some (.int (ppos n st i : Int)), b]) ∧ Same H H3 ∧ H3 (bs.getD (ppos n st i) 0) = some (.lst [.int (((ppos n st i + 1) % n : Nat) : Int)]) ∧
            (j = 0 → H3 = H2) ∧ (j = 1 → H3 D = some (.lst (distL n st (i + 1))) ∧ H3 R = some (.lst (reachL n st (if i + 1 < n then i + 1 + 1 else n))))) ⟨⟨_, rfl⟩, sm, hb2, fun _ => rfl, fun z => absurd z (by decide)⟩ (fun j σ H3 _ ⟨_, _, q, _⟩ => SqL.of q) ?_ ?_
          · rintro j x σ H3 hx ⟨⟨b', rfl⟩, sm3, hb3, z0, _⟩
            have hj : j = 0 := by
              have := (List.getElem?_eq_some_iff.mp hx).1
              simp at this; omega
            subst hj
            obtain rfl := z0 rfl
            obtain rfl : x = .int (((ppos n st i + 1) % n : Nat) : Int) := (Option.some.inj hx).symm
            rw [pos_next hs hin]
            by_cases hnx : i + 1 < n
            · rw [if_pos hnx, if_pos hnx]
              have hp1 := pos_lt hs hnx
              have hg1 : (distL n st i)[ppos n st (i + 1)]? = some .non := by
                rw [distL_get hp1]; unfold distV; rw [rel_pos hs hnx, if_neg (by omega)]
              have hg2 : (distL n st i)[ppos n st i]? = some (.int (i : Int)) := by
                rw [distL_get hpn]; unfold distV; rw [rel_pos hs hin, if_pos (Nat.le_refl _)]
              refine ⟨_, rfl, _, rfl, D, _, _, _, rfl, rfl, SqL.of hD2, atI_nat hg1, rfl, _, rfl, iteT ?_⟩
              refine ⟨_, rfl, _, rfl, D, _, _, _, rfl, rfl, SqL.of hD2, atI_nat hg2, _, _, rfl, rfl, _, rfl, _, rfl, D, _, _, _, rfl, rfl, hD2, by rw [distL_len]; exact ixN_nat hp1, ?_⟩
              have e1 : (distL n st i).set (ppos n st (i + 1)) (.int ((i : Int) + 1)) = distL n st (i + 1) := by
                refine distL_set hs hnx _ (by simp) _ distL_len fun x hx hne => ?_
                rw [distL_get hx, distV_next hs hx hnx hne]
              rw [e1]
              have hR3 : (upd H3 D (.lst (distL n st (i + 1)))) R = some (.lst (reachL n st (i + 1))) := by rw [upd_ne nDR.symm]; exact hR2
              refine ⟨_, rfl, .inl ⟨rfl, _, SqL.of hR3⟩, _, rfl, R, _, _, rfl, rfl, hR3, by rw [reachL_len]; exact Nat.lt_of_lt_of_le hnx (Nat.le_trans n2 (by decide)), ?_⟩
              refine ⟨⟨_, rfl⟩, fun b o e => ?_, ?_, fun z => absurd z (by decide), fun _ => ⟨?_, ?_⟩⟩
              · rw [upd_ne (ne_of_none e hR0), upd_ne (ne_of_none e hD)]; exact sm3 _ _ e
              · rw [upd_ne nbR, upd_ne nbD, pos_next hs hin, if_pos hnx] at *; exact hb3
              · rw [upd_ne nDR, upd_same]
              · rw [upd_same, ← reachL_next]
            · rw [if_neg hnx, if_neg hnx]
              have hil : i + 1 = n := by omega
              have hg1 : (distL n st i)[st]? = some (.int 0) := by
                rw [distL_get hs]; unfold distV rel; rw [if_pos (Nat.le_refl _), Nat.sub_self, if_pos (Nat.zero_le _)]; rfl
              refine ⟨_, rfl, _, rfl, D, _, _, _, rfl, rfl, SqL.of hD2, atI_nat hg1, rfl, _, rfl, iteF ?_⟩
              refine ⟨⟨_, rfl⟩, sm3, ?_, fun z => absurd z (by decide), fun _ => ⟨?_, ?_⟩⟩
              · rw [pos_next hs hin, if_neg hnx] at hb3; exact hb3
              · rw [hD2]
                refine congrArg (fun l => some (HO.lst l)) ?_
                unfold distL
                refine List.map_congr_left fun x hx => ?_
                have hx' := List.mem_range.mp hx
                have := rel_lt hs hx'
                unfold distV
                rw [if_pos (by omega), if_pos (by omega)]
              · have e2 : reachL n st (i + 1) = reachL n st n := by rw [hil]
                rw [← e2]; exact hR2
          · rintro σ H3 ⟨⟨b', rfl⟩, sm3, _, _, z1⟩
            obtain ⟨w1, w2⟩ := z1 rfl
            refine ⟨_, rfl, _, _, rfl, rfl, ⟨⟨i + 1, by omega, ⟨_, _, rfl⟩, sm3, w1, w2⟩, ?_⟩⟩
            show n - ((i : Int) + 1).toNat < n - (i : Int).toNat
            omega
        · have e : i = n := by omega
          subst e
          rw [if_neg hin, show decide ((i : Int) < (i : Int)) = false by simp]
          refine iteF ⟨_, rfl, k D H2 sm hD hD2⟩
      · rintro σ H2 Q1 Q2 imp ⟨v, e1, v2, e2, p, ys, e3, e4, i1, i2, e5, e6, kk, e7, q⟩
        exact ⟨v, e1, v2, e2, p, ys, e3, e4, i1, i2, e5, e6, kk, e7, imp _ _ q⟩
end
end K19

set_option Elab.async false
set_option linter.all false
set_option maxRecDepth 100000
set_option maxHeartbeats 4000000
namespace K19
open PySem L2
theorem getD_snoc {as : List Addr} {t : Addr} {j n : Nat} (h : as.length = n) : (as ++ [t]).getD j 0 = if j = n then t else as.getD j 0 := by
  rw [List.getD_eq_getElem?_getD, List.getD_eq_getElem?_getD]
  by_cases hj : j = n
  · subst hj; subst h
    rw [if_pos rfl, List.getElem?_append_right (Nat.le_refl _), Nat.sub_self]; rfl
  · rw [if_neg hj]
    by_cases hlt : j < as.length
    · rw [List.getElem?_append_left hlt]
    · rw [List.getElem?_append_right (by omega), List.getElem?_eq_none (by simp; omega), List.getElem?_eq_none (by omega)]
/-- what a list of addresses holds, one by one -/
def Holds (H : Hp) (as : List Addr) (n : Nat) (o : Nat → HO) : Prop := as.length = n ∧ ∀ j, j < n → H (as.getD j 0) = some (o j)
theorem Holds.nil {H : Hp} {o : Nat → HO} : Holds H [] 0 o := ⟨rfl, fun j hj => absurd hj (by omega)⟩
theorem Holds.snoc {H : Hp} {as : List Addr} {n : Nat} {o : Nat → HO} {t : Addr} (h : Holds H as n o) (ht : H t = some (o n)) : Holds H (as ++ [t]) (n + 1) o := by
  refine ⟨by rw [List.length_append, h.1]; rfl, fun j hj => ?_⟩
  rw [getD_snoc h.1]
  by_cases e : j = n
  · rw [if_pos e, e]; exact ht
  · rw [if_neg e]; exact h.2 j (by omega)
theorem Holds.mono {H H' : Hp} {as : List Addr} {n : Nat} {o : Nat → HO} (h : Holds H as n o) (e : ∀ j, j < n → H (as.getD j 0) = some (o j) → H' (as.getD j 0) = some (o j)) : Holds H' as n o := ⟨h.1, fun j hj => e j hj (h.2 j hj)⟩
theorem same_new {H : Hp} {D : Addr} {o : HO} (h : H D = none) : Same H (upd H D o) := fun b u e => by rw [upd_ne (ne_of_none e h)]; exact e
theorem same_upd {H H' : Hp} {D : Addr} {o : HO} (s : Same H H') (h : H D = none) : Same H (upd H' D o) := fun b u e => by rw [upd_ne (ne_of_none e h)]; exact s _ _ e
theorem nbRow : (["row"] : List Str).Nodup := by decide +kernel
section
variable {P : Program} {w : World} {K : PySem.W.Frag} {mg : Str → Option Value} {base : Heap}
theorem scReach : FnScope ["distances"] ["distances"] (defScope sReach) := ⟨rfl, rfl, rfl, by decide +kernel, rfl, by decide +kernel, by decide +kernel⟩
/-- rows of numbers -/
def spReach : Sp := fun vs H Q _ => ∃ (l : Addr) (ds : List Addr) (n : Nat) (o : Nat → List V), vs = [.ref l] ∧ H l = some (.lst (ds.map V.ref)) ∧ n ≤ 32 ∧ Holds H ds n (fun j => .lst (o j)) ∧ (∀ j, j < n → ∀ x ∈ o j, ∃ i, x = .int i) ∧ ∀ H', Same H H' → Q .non H'
theorem ok_reach {f : Addr} {fd : FuncData} (F : Fun K "check_reached" "check_reached" sReach f fd) (B : Bl mg) : FnOk P w K mg base CX0 1 f fd ["distances"] spReach := by
  refine F.ok scReach (fun vs H Q E h => ?_) (fun cdv A outer s H vs Q E hr h => ?_)
  · obtain ⟨l, ds, n, o, rfl, _⟩ := h
    rfl
  · obtain ⟨l, ds, n, o, rfl, hl, n2, hh, hx, k⟩ := h
    refine' ⟨_, pss_one (ps_if (pt_val (pe_callB (call_anyB rfl) (by rfl) B.any PyProof.Rows.boot_any (pa_cons ?c pa_nil))) pss_never pss_nil), ?_⟩
    case c =>
      refine' pe_comp (g := gName 0) (te := tOp (rIn K false) (tC .non) (tVar 0)) (NB := ["row"]) (src := [none]) (blk_of (by kernel_rfl)) rfl (pi_list (pv 0)) ?g ?t ?e
      case g => exact fun cl C s₃ H₃ fp => pg_name (i := 0) nbRow rfl (Or.inl rfl) (Or.inr rfl)
      case t => exact fun cl C s₃ H₃ fp => pts_nil
      case e => exact fun cl C s₃ H₃ fp => pe_cmpR op_in_seq pe_non (pv 0) rfl
    refine ⟨_, rfl, l, rfl, ⟨_, SqL.of hl⟩, fun D hD => ?_⟩
    have nl : l ≠ D := ne_of_none hl hD
    refine comp_list (xs := ds.map V.ref) (fun i ys σ H2 => (∃ a, σ = [a]) ∧ ys = (List.replicate i false).map V.bl ∧ H2 = upd H D (.lst ys)) ⟨⟨_, rfl⟩, rfl, rfl⟩ (fun i ys σ H2 _ ⟨_, _, e⟩ => by rw [e]; exact SqL.of (by rw [upd_ne nl]; exact hl)) ?_ ?_
    · rintro i x ys σ H2 Kt Kf hxi ⟨⟨a, rfl⟩, rfl, rfl⟩ kt kf
      obtain ⟨hi, rfl⟩ := getAs hxi
      rw [hh.1] at hi
      have hd := hh.2 i hi
      have nd : ds.getD i 0 ≠ D := ne_of_none hd hD
      have q1 : (o i).all flatV = true := List.all_eq_true.mpr fun x hx' => by obtain ⟨z, rfl⟩ := hx i hi x hx'; rfl
      have q2 : inV .non (o i) = false := by
        unfold inV
        rw [List.any_eq_false]
        intro x hx'
        obtain ⟨z, rfl⟩ := hx i hi x hx'
        exact fun z => by cases z
      refine ⟨_, rfl, _, _, rfl, .inl (SqL.of (by rw [upd_ne nd]; exact hd)), rfl, q1, ?_⟩
      refine kt _ _ _ upd_same ?_ ⟨⟨_, rfl⟩, ?_, by rw [upd_upd]⟩
      · rw [List.length_map, List.length_replicate]
        exact Nat.lt_of_lt_of_le hi (Nat.le_trans n2 (by decide))
      · rw [List.replicate_succ', List.map_append, q2]; rfl
    · rintro ys σ H2 ⟨_, rfl, rfl⟩
      refine ⟨D, _, rfl, SqL.of upd_same, _, rfl, ?_⟩
      have e : (List.replicate (ds.map V.ref).length false).any id = false := by
        rw [List.any_eq_false]; intro x hx'; rw [(List.mem_replicate.mp hx').2]; decide
      rw [e]
      exact iteF (k _ (same_new hD))
end
end K19

set_option Elab.async false
set_option linter.all false
set_option maxRecDepth 100000
set_option maxHeartbeats 4000000
namespace K19
open PySem L2
theorem nb2 : (["one", "other"] : List Str).Nodup := by decide +kernel
theorem nbHMT : (["house", "many", "ties"] : List Str).Nodup := by decide +kernel
theorem nbHS : (["house", "self"] : List Str).Nodup := by decide +kernel
theorem sort_pairs {R : Addr → Int × Int → Prop} {as : List Addr} {ys : List (Int × Int)} (h2 : 2 ≤ ys.length) (h : ∀ i, i < ys.length → R (as.getD i 0) (ys.getD i (0, 0))) :
    ((sortIx ys).map fun i => as.getD i 0).length = ys.length ∧ ∀ i, i < ys.length → R (((sortIx ys).map fun i => as.getD i 0).getD i 0) ((sortP ys).getD i (0, 0)) := by
  have perm := sortIx_perm (ys := ys) (by omega)
  have hlen : (sortIx ys).length = ys.length := by rw [perm.length_eq, List.length_range]
  refine ⟨by rw [List.length_map, hlen], fun i hi => ?_⟩
  have hi' : i < (sortIx ys).length := by omega
  have e1 : ((sortIx ys).map fun i => as.getD i 0).getD i 0 = as.getD (sortIx ys)[i] 0 := by
    rw [List.getD_eq_getElem?_getD, List.getElem?_map, List.getElem?_eq_getElem hi']; rfl
  have e2 : (sortP ys).getD i (0, 0) = ys.getD (sortIx ys)[i] (0, 0) := by
    unfold sortP
    rw [List.getD_eq_getElem?_getD, List.getElem?_map, List.getElem?_eq_getElem hi']; rfl
  rw [e1, e2]
  refine h _ ?_
  have := perm.mem_iff.mp (List.getElem_mem hi')
  exact List.mem_range.mp this
/-- all but the net and the table stays -/
def SameD (p Pt : Addr) (H H' : Hp) : Prop := ∀ b o, H b = some o → b ≠ p → b ≠ Pt → H' b = some o
theorem TiesAt.mono {p Pt : Addr} {H H' : Hp} {l n : Nat} {C dx : Addr} {fs : List (Str × V)} (h : TiesAt H l n) (e : SameD p Pt H H') (hp : H p = some (.ins C dx fs)) (tb : Tab Pt H) : TiesAt H' l n := by
  obtain ⟨as, a, b, c⟩ := h
  refine ⟨as, e _ _ a (ne_of a hp (by intro z; cases z)) (tb.not a (by intro ps z; cases z)), b, fun i hi => e _ _ (c i hi) (ne_of (c i hi) hp (by intro z; cases z)) (tb.not (c i hi) (by intro ps z; cases z))⟩
theorem Tab.mono {p Pt C dx : Addr} {fs : List (Str × V)} {H H' : Hp} (t : Tab Pt H) (e : ∀ b o, H b = some o → b ≠ p → H' b = some o) (hp : H p = some (.ins C dx fs)) : Tab Pt H' := by
  rcases t with z | ⟨c, z, y⟩
  · exact .inl (e _ _ z (ne_of z hp (by intro q; cases q)))
  · exact .inr ⟨c, e _ _ z (ne_of z hp (by intro q; cases q)), e _ _ y (ne_of y hp (by intro q; cases q))⟩
section
variable {P : Program} {w : World} {K : PySem.W.Frag} {mg : Str → Option Value} {base : Heap}
theorem scInit : FnScope ["self", "many", "ties"] ["self", "many", "ties"] (defScope sInit) := ⟨rfl, rfl, rfl, by decide +kernel, rfl, by decide +kernel, by decide +kernel⟩
def spInit (K : PySem.W.Frag) (C CE Pt : Addr) : Sp := fun vs H Q E => (∃ p x o y, vs = [.ref p, x, y] ∧ Wh K H x o ∧ within o 2 32 = false ∧ E (.ref CE) none H) ∨
  ∃ (p dx : Addr) (n : Nat) (l : Addr), vs = [.ref p, .int n, .ref l] ∧ H p = some (.ins C dx []) ∧ 2 ≤ n ∧ n ≤ 32 ∧ TiesAt H l n ∧ Tab Pt H ∧
    ∀ H', NetAt K C H' p n → Tab Pt H' → (∀ b o, H b = some o → b ≠ p → b ≠ Pt → H' b = some o) → Q .non H'
set_option maxHeartbeats 8000000 in
theorem ok_init {f C CE Pt : Addr} {fd : FuncData} (F : Fun K "__init__" "Net.__init__" sInit f fd) (T : NT K mg C) (B : Bl mg) (CT : Cal P w K mg base (CXf P w) 6 "check_ties" ["many", "ties"] (spCTies K CE)) (CB : Cal P w K mg base CX0 1 "check_balance" ["many", "ties"] spBal)
    (HO' : Cal P w K mg base CX0 1 "houses_out" ["many", "ties", "house"] (spOuts Pt)) (DF : Cal P w K mg base CX0 1 "distances_from" ["out_lists", "start"] spDist) (CR : Cal P w K mg base CX0 1 "check_reached" ["distances"] spReach) :
    FnOk P w K mg base (CXf P w) 7 f fd ["self", "many", "ties"] (spInit K C CE Pt) := by
  refine F.okX scInit (fun vs H Q E h => ?_) (fun cdv A outer s H vs Q E hr h => ?_)
  · rcases h with ⟨p, x, o, y, rfl, _⟩ | ⟨p, dx, n, l, rfl, _⟩ <;> rfl
  · have hr1 : Room 1 _ := hr.mono (by decide)
    refine' ⟨_, pss_cons (ps_expr (pe_cal CT hr (passX (E' := E) fun _ _ _ z => z) (pa_cons (pv 1) (pa_cons (pv 2) pa_nil))))
      (pss_cons (ps_expr (pe_cal CB hr1 pass0 (pa_cons (pv 1) (pa_cons (pv 2) pa_nil))))
      (pss_cons (ps_fld (pv 0) (pv 1) rfl)
      (pss_cons (ps_fld (pv 0) (pe_callB call_sortP (by rfl) B.sorted PyProof.Rows.boot_sorted (pa_cons ?c1 pa_nil)) rfl)
      (pss_cons (ps_fld (pv 0) ?c2 rfl)
      (pss_cons (ps_fld (pv 0) ?c3 rfl)
      (pss_one (ps_expr (pe_cal CR hr1 pass0 (pa_cons (pe_fld (pv 0) rfl) pa_nil))))))))), ?_⟩
    case c1 =>
      refine' pe_comp (g := gTup K 2 (gCons (gName 0) (gCons (gName 1) gNil))) (te := tTup (tCons (tVar 0) (tCons (tVar 1) tNil))) (NB := ["one", "other"]) (src := [none, none]) (blk_of (by kernel_rfl)) rfl (pi_list (pv 2)) ?g ?t ?e
      case g => exact fun cl C s₃ H₃ fp => pg_tup (n := 2) rfl (pgs_cons (pg_name (i := 0) nb2 rfl (Or.inl rfl) (Or.inr rfl)) (pgs_cons (pg_name (i := 1) nb2 rfl (Or.inl rfl) (Or.inr rfl)) pgs_nil))
      case t => exact fun cl C s₃ H₃ fp => pts_nil
      case e => exact fun cl C s₃ H₃ fp => pe_tup (pa_cons (pv 0) (pa_cons (pv 1) pa_nil))
    case c2 =>
      refine' pe_comp (g := gName 0) (te := tCall (spOuts Pt) [] E0 (tCons (tVar 1) (tCons (tVar 2) (tCons (tVar 0) tNil)))) (NB := ["house", "many", "ties"]) (src := [none, some 1, some 2]) (blk_of (by kernel_rfl)) rfl (pi_range1 rfl B.range (pa_cons (pv 1) pa_nil)) ?g ?t ?e
      case g => exact fun cl C s₃ H₃ fp => pg_name (i := 0) nbHMT rfl (Or.inl rfl) (Or.inr rfl)
      case t => exact fun cl C s₃ H₃ fp => pts_nil
      case e => exact fun cl C s₃ H₃ fp => pe_cal HO' hr1 pass0 (pa_cons (pv 1) (pa_cons (pv 2) (pa_cons (pv 0) pa_nil)))
    case c3 =>
      refine' pe_comp (g := gName 0) (te := tCall spDist [] E0 (tCons (tFld K (tVar 1) "out_lists") (tCons (tVar 0) tNil))) (NB := ["house", "self"]) (src := [none, some 0]) (blk_of (by kernel_rfl)) rfl (pi_range1 rfl B.range (pa_cons (pv 1) pa_nil)) ?g ?t ?e
      case g => exact fun cl C s₃ H₃ fp => pg_name (i := 0) nbHS rfl (Or.inl rfl) (Or.inr rfl)
      case t => exact fun cl C s₃ H₃ fp => pts_nil
      case e => exact fun cl C s₃ H₃ fp => pe_cal DF hr1 pass0 (pa_cons (pe_fld (pv 1) rfl) (pa_cons (pv 0) pa_nil))
    rcases h with ⟨p, x, o, y, rfl, wh, hw, k⟩ | ⟨p, dx, n, l, rfl, hp, n1, n2, TT, tb, k⟩
    · exact ⟨_, rfl, _, rfl, .inl ⟨x, o, y, rfl, wh, hw, k⟩⟩
    · refine ⟨_, rfl, _, rfl, .inr ⟨n, l, rfl, n1, n2, TT, fun H1 s1 => ?_⟩⟩
      refine ⟨_, rfl, _, rfl, n, l, rfl, n1, n2, TT.same s1, fun H2 s2 => ?_⟩
      have s12 : Same H H2 := s1.trans s2
      -- self.house_count = many
      refine ⟨_, rfl, _, rfl, p, C, dx, [], rfl, s12 _ _ hp, T.cl, T.nH, (by show 0 < 1000; decide), ?_⟩
      let G1 : Hp := upd H2 p (.ins C dx (putF "house_count" (.int n) []))
      have d1 : SameD p Pt H G1 := fun b o e h1 _ => by show upd _ _ _ _ = _; rw [upd_ne h1]; exact s12 _ _ e
      have g1p : G1 p = some (.ins C dx (putF "house_count" (.int n) [])) := upd_same
      have TT1 : TiesAt G1 l n := TT.mono d1 hp tb
      have tb1 : Tab Pt G1 := tb.mono (fun b o e h1 => by show upd _ _ _ _ = _; rw [upd_ne h1]; exact s12 _ _ e) hp
      obtain ⟨as, hl, hlen, has⟩ := id TT1
      -- self.tie_list = sorted([..])
      refine ⟨_, rfl, l, rfl, ⟨_, SqL.of hl⟩, fun D hD => ?_⟩
      refine comp_list (xs := as.map V.ref) (fun i ys σ H3 => (∃ a b, σ = [a, b]) ∧ ∃ as', ys = as'.map V.ref ∧ Holds H3 as' i (fun j => .tup [.int (tie n j).1, .int (tie n j).2]) ∧ Same G1 H3 ∧ H3 D = some (.lst ys))
        ⟨⟨_, _, rfl⟩, [], rfl, Holds.nil, same_new hD, upd_same⟩ (fun i ys σ H3 _ ⟨_, _, _, _, sm, _⟩ => SqL.of (sm _ _ hl)) ?_ ?_
      · rintro i x ys σ H3 Kt Kf hx ⟨⟨a, b, rfl⟩, as', rfl, hh, sm, hD3⟩ kt kf
        obtain ⟨hi, rfl⟩ := getAs hx
        rw [hlen] at hi
        refine ⟨_, _, rfl, SqT.of (sm _ _ (has i hi)), rfl, _, _, rfl, _, _, rfl, rfl, ?_⟩
        refine ⟨_, rfl, _, rfl, by show 2 ≤ sizeLine; decide, fun t ht => ?_⟩
        have nDt : D ≠ t := ne_of_none hD3 ht
        refine kt _ _ _ (by rw [upd_ne nDt]; exact hD3) (by rw [List.length_map, hh.1]; exact Nat.lt_of_lt_of_le hi (Nat.le_trans n2 (by decide))) ⟨⟨_, _, rfl⟩, as' ++ [t], by rw [List.map_append]; rfl, ?_, ?_, upd_same⟩
        · refine Holds.snoc (hh.mono fun j hj e => ?_) (by rw [upd_ne nDt.symm, upd_same])
          rw [upd_ne (ne_of e hD3 (by intro z; cases z)), upd_ne (ne_of_none e ht)]; exact e
        · intro b o e
          rw [upd_ne (ne_of_none e hD), upd_ne (ne_of_none (sm _ _ e) ht)]; exact sm _ _ e
      · rintro ys σ H3 ⟨_, as', rfl, hh, sm, hD3⟩
        rw [List.length_map, hlen] at hh
        have hpair : ∀ i, i < (ringTies n).length → TupAt H3 (as'.getD i 0) ((ringTies n).getD i (0, 0)) := fun i hi => hh.2 i (by rw [ringTies_len] at hi; exact hi)
        obtain ⟨sl, sp'⟩ := sort_pairs (R := TupAt H3) (as := as') (by rw [ringTies_len]; exact n1) hpair
        rw [ringTies_len] at sl sp'
        refine ⟨D, as', ringTies n, rfl, SqL.of hD3, by rw [ringTies_len]; exact hh.1, fun i hi => SqT.of (hpair i hi), by rw [ringTies_len]; exact n1, by rw [ringTies_len]; omega, fun tl htl => ?_⟩
        have e3p : H3 p = some (.ins C dx (putF "house_count" (.int n) [])) := sm _ _ g1p
        have nptl : p ≠ tl := ne_of_none e3p htl
        refine ⟨_, rfl, p, C, dx, _, rfl, by rw [upd_ne nptl]; exact e3p, T.cl, T.nT, by show 1 < 1000; decide, ?_⟩
        let G2 : Hp := upd (upd H3 tl (.lst ((sortIx (ringTies n)).map fun i => V.ref (as'.getD i 0)))) p (.ins C dx (putF "tie_list" (.ref tl) (putF "house_count" (.int n) [])))
        have q2 : ∀ b o, H3 b = some o → b ≠ p → G2 b = some o := fun b o e h1 => by
          show upd _ _ _ _ = _
          rw [upd_ne h1, upd_ne (ne_of_none e htl)]; exact e
        have d2 : SameD p Pt H G2 := fun b o e h1 h2 => q2 _ _ (sm _ _ (d1 _ _ e h1 h2)) h1
        have g2p : G2 p = some (.ins C dx (putF "tie_list" (.ref tl) (putF "house_count" (.int n) []))) := upd_same
        have g2t : G2 tl = some (.lst ((sortIx (ringTies n)).map fun i => V.ref (as'.getD i 0))) := by show upd _ _ _ _ = _; rw [upd_ne nptl.symm, upd_same]
        have TT2 : TiesAt G2 l n := TT.mono d2 hp tb
        have tb2 : Tab Pt G2 := tb1.mono (fun b o e h1 => q2 _ _ (sm _ _ e) h1) g1p
        have pr2 : ∀ i, i < n → TupAt G2 (((sortIx (ringTies n)).map fun i => as'.getD i 0).getD i 0) ((sortP (ringTies n)).getD i (0, 0)) := fun i hi => q2 _ _ (sp' i hi) (ne_of (sp' i hi) e3p (by intro z; cases z))
        -- self.out_lists = [..]
        refine ⟨_, rfl, n, rfl, by omega, by omega, fun D2 hD2 => ?_⟩
        refine comp_range (n := n) (lo := 0) (fun i ys σ H4 => (∃ a, σ = [a, some (.int n), some (.ref l)]) ∧ ∃ bs, ys = bs.map V.ref ∧ Holds H4 bs i (fun h => .lst [.int (((h + 1) % n : Nat) : Int)]) ∧ SameT Pt G2 H4 ∧ Tab Pt H4 ∧ H4 D2 = some (.lst ys))
          ⟨⟨_, rfl⟩, [], rfl, Holds.nil, SameT.of (same_new hD2), tb2.same (same_new hD2), upd_same⟩ ?_ ?_
        · rintro i ys σ H4 Kt Kf hi ⟨⟨a, rfl⟩, bs, rfl, hb, sm4, tb4, hD4⟩ kt kf
          have TT4 : TiesAt H4 l n := TT2.mono (p := p) (fun b o e _ h2 => sm4 _ _ e h2) g2p tb2
          refine ⟨_, rfl, _, rfl, _, rfl, n, l, i, by rw [Int.zero_add]; rfl, n1, n2, hi, TT4, tb4, fun r H5 t5 st5 hr4 hr5 => ?_⟩
          have e5D : H5 D2 = some (.lst (bs.map V.ref)) := st5 _ _ hD4 (tb4.not hD4 (by intro ps z; cases z))
          have nrD : r ≠ D2 := by rintro rfl; rw [hD4] at hr4; cases hr4
          have keepD : ∀ b o ys', H5 b = some o → b ≠ D2 → (upd H5 D2 ys') b = some o := fun b o ys' e h => by rw [upd_ne h]; exact e
          refine kt _ _ _ e5D (by rw [List.length_map, hb.1]; exact Nat.lt_of_lt_of_le hi (Nat.le_trans n2 (by decide))) ⟨⟨_, rfl⟩, bs ++ [r], by rw [List.map_append]; rfl, ?_, ?_, ?_, upd_same⟩
          · refine Holds.snoc (hb.mono fun j hj e => ?_) (keepD _ _ _ hr5 nrD)
            refine keepD _ _ _ (st5 _ _ e (tb4.not e (by intro ps z; cases z))) ?_
            intro z
            rw [z, hD4] at e
            have e' := HO.lst.inj (Option.some.inj e)
            cases bs with
            | nil => cases e'
            | cons b0 r0 => cases e'
          · intro b o e h
            exact keepD _ _ _ (st5 _ _ (sm4 _ _ e h) h) (ne_of_none e hD2)
          · rcases t5 with z | ⟨c, z, y⟩
            · exact .inl (keepD _ _ _ z (ne_of z e5D (by intro q; cases q)))
            · exact .inr ⟨c, keepD _ _ _ z (ne_of z e5D (by intro q; cases q)), keepD _ _ _ y (ne_of y e5D (by intro q; cases q))⟩
        · rintro ys σ H4 ⟨_, bs, rfl, hb, sm4, tb4, hD4⟩
          have e4p : H4 p = some (.ins C dx (putF "tie_list" (.ref tl) (putF "house_count" (.int n) []))) := sm4 _ _ g2p (tb2.not g2p (by intro ps z; cases z))
          refine ⟨_, rfl, p, C, dx, _, rfl, e4p, T.cl, T.nO, by have h1 := length_putF "tie_list" (V.ref tl) (putF "house_count" (V.int n) []); have h2 := length_putF "house_count" (V.int n) []; simp at h2; omega, ?_⟩
          let G3 : Hp := upd H4 p (.ins C dx (putF "out_lists" (.ref D2) (putF "tie_list" (.ref tl) (putF "house_count" (.int n) []))))
          have q3 : ∀ b o, H4 b = some o → b ≠ p → G3 b = some o := fun b o e h1 => by show upd _ _ _ _ = _; rw [upd_ne h1]; exact e
          have g3p : G3 p = some (.ins C dx (putF "out_lists" (.ref D2) (putF "tie_list" (.ref tl) (putF "house_count" (.int n) [])))) := upd_same
          have O3 : OutsAt G3 D2 n := ⟨bs, q3 _ _ hD4 (ne_of hD4 e4p (by intro z; cases z)), hb.1, fun h hh' => q3 _ _ (hb.2 h hh') (ne_of (hb.2 h hh') e4p (by intro z; cases z))⟩
          -- self.distances = [..]
          refine ⟨_, rfl, n, rfl, by omega, by omega, fun D3 hD3' => ?_⟩
          refine comp_range (n := n) (lo := 0) (fun i ys σ H6 => (∃ a, σ = [a, some (.ref p)]) ∧ ∃ ds, ys = ds.map V.ref ∧ Holds H6 ds i (fun s => .lst (distL n s n)) ∧ Same G3 H6 ∧ H6 D3 = some (.lst ys))
            ⟨⟨_, rfl⟩, [], rfl, Holds.nil, same_new hD3', upd_same⟩ ?_ ?_
          · rintro i ys σ H6 Kt Kf hi ⟨⟨a, rfl⟩, ds, rfl, hd, sm6, hD6⟩ kt kf
            refine ⟨_, rfl, p, C, dx, _, _, rfl, sm6 _ _ g3p, T.cl, T.nO, by rw [lookup_putF, if_pos rfl], _, rfl, D2, n, i, by rw [Int.zero_add]; rfl, n1, n2, hi, O3.same sm6, fun r H7 st7 hr6 hr7 => ?_⟩
            have e7D : H7 D3 = some (.lst (ds.map V.ref)) := st7 _ _ hD6
            have nrD : r ≠ D3 := by rintro rfl; rw [hD6] at hr6; cases hr6
            have keepD : ∀ b o ys', H7 b = some o → b ≠ D3 → (upd H7 D3 ys') b = some o := fun b o ys' e h => by rw [upd_ne h]; exact e
            refine kt _ _ _ e7D (by rw [List.length_map, hd.1]; exact Nat.lt_of_lt_of_le hi (Nat.le_trans n2 (by decide))) ⟨⟨_, rfl⟩, ds ++ [r], by rw [List.map_append]; rfl, ?_, ?_, upd_same⟩
            · refine Holds.snoc (hd.mono fun j hj e => ?_) (keepD _ _ _ hr7 nrD)
              refine keepD _ _ _ (st7 _ _ e) ?_
              intro z
              rw [z, hD6] at e
              have e' := HO.lst.inj (Option.some.inj e)
              have hin : V.int (rel n j 0 : Int) ∈ distL n j n := by
                unfold distL
                refine List.mem_map.mpr ⟨0, List.mem_range.mpr (by omega), ?_⟩
                unfold distV
                rw [if_pos (by have := rel_lt (n := n) (s := j) (x := 0) (by omega) (by omega); omega)]
              rw [← e'] at hin
              obtain ⟨_, _, q⟩ := List.mem_map.mp hin
              cases q
            · intro b o e
              exact keepD _ _ _ (st7 _ _ (sm6 _ _ e)) (ne_of_none e hD3')
          · rintro ys σ H6 ⟨_, ds, rfl, hd, sm6, hD6⟩
            have e6p := sm6 _ _ g3p
            refine ⟨_, rfl, p, C, dx, _, rfl, e6p, T.cl, T.nD, by have h1 := length_putF "tie_list" (V.ref tl) (putF "house_count" (V.int n) []); have h2 := length_putF "house_count" (V.int n) []; have h3 := length_putF "out_lists" (V.ref D2) (putF "tie_list" (V.ref tl) (putF "house_count" (V.int n) [])); simp at h2; omega, ?_⟩
            have q4 : ∀ b o u, H6 b = some o → b ≠ p → (upd H6 p u) b = some o := fun b o u e h1 => by rw [upd_ne h1]; exact e
            refine ⟨_, rfl, p, C, dx, _, _, rfl, upd_same, T.cl, T.nD, by rw [lookup_putF, if_pos rfl], D3, ds, n, fun s => distL n s n, rfl, q4 _ _ _ hD6 (ne_of hD6 e6p (by intro z; cases z)), n2, hd.mono fun j hj e => q4 _ _ _ e (ne_of e e6p (by intro z; cases z)), fun j hj x hx => ?_, fun H8 s8 => ?_⟩
            · unfold distL at hx
              obtain ⟨y, hy, rfl⟩ := List.mem_map.mp hx
              have hy' := List.mem_range.mp hy
              unfold distV
              rw [if_pos (by have := rel_lt (n := n) (s := j) (x := y) hj hy'; omega)]
              exact ⟨_, rfl⟩
            · have up : ∀ b o, G2 b = some o → b ≠ p → b ≠ Pt → H8 b = some o := fun b o e h1 h2 => s8 _ _ (q4 _ _ _ (sm6 _ _ (q3 _ _ (sm4 _ _ e h2) h1)) h1)
              refine k H8 ⟨⟨dx, tl, D2, D3, s8 _ _ upd_same, _, by rw [List.map_map]; exact up _ _ g2t nptl.symm (tb2.not g2t (by intro ps z; cases z)), sl, fun i hi => up _ _ (pr2 i hi) (ne_of (pr2 i hi) g2p (by intro z; cases z)) (tb2.not (pr2 i hi) (by intro ps z; cases z))⟩⟩ ?_ fun b o e h1 h2 => up _ _ (d2 _ _ e h1 h2) h1 h2
              have up4 : ∀ b o, H4 b = some o → b ≠ p → H8 b = some o := fun b o e h1 => s8 _ _ (q4 _ _ _ (sm6 _ _ (q3 _ _ e h1)) h1)
              exact tb4.mono up4 e4p
end
end K19

set_option Elab.async false
set_option linter.all false
set_option maxRecDepth 100000
set_option maxHeartbeats 4000000
namespace K19
open PySem L2
abbrev sBox : Stmt := top 40
abbrev sRing : Stmt := top 41
abbrev sWords : Stmt := top 42
abbrev sPairs : Stmt := top 43
abbrev sWithout : Stmt := top 44
abbrev sTied : Stmt := top 45
abbrev sSides : Stmt := top 46
abbrev sRead : Stmt := top 52
section
variable {P : Program} {w : World} {K : PySem.W.Frag} {mg : Str → Option Value} {base : Heap}
theorem scPairs : FnScope ["many", "pairs", "ties", "pair", "one", "other"] ["many", "pairs"] (defScope sPairs) := ⟨rfl, rfl, rfl, by decide +kernel, rfl, by decide +kernel, by decide +kernel⟩
def spPairs (K : PySem.W.Frag) (CE : Addr) : Sp := fun vs H _ E => ∃ y l x o, vs = [y, .ref l] ∧ H l = some (.lst [x]) ∧ Rw K H x o ∧ isRow o 2 = false ∧ ∀ H', Same H H' → E (.ref CE) none H'
theorem TyX.same' {H H' : Hp} {x : V} {t : Value} (e : Same H H') (h : TyX K H x t) : TyX K H' x t := by
  cases h with
  | exc T q => exact .exc T (e _ _ q)
  | of h =>
    refine .of ?_
    cases h with
    | non => exact .non
    | bl b => exact .bl b
    | int i => exact .int i
    | str z => exact .str z
    | flt z => exact .flt z
    | lst q => exact .lst (e _ _ q)
    | frz q => exact .frz (e _ _ q)
    | tup q => exact .tup (e _ _ q)
    | dK q => exact .dK (e _ _ q)
    | dT q => exact .dT (e _ _ q)
    | ins q a b c d m => exact .ins (e _ _ q) a b c d m
theorem Wh.same {H H' : Hp} {x : V} {o : Option Int} (e : Same H H') (h : Wh K H x o) : Wh K H' x o := by
  cases h with
  | int i => exact .int i
  | no h =>
    obtain ⟨t, ty, q⟩ := h
    exact .no ⟨t, TyX.same' e ty, q⟩
theorem Rw.same {H H' : Hp} {x : V} {o : Option (List V)} (e : Same H H') (h : Rw K H x o) : Rw K H' x o := by
  cases h with
  | tup h => exact .tup (e _ _ h)
  | no ty h => exact .no (TyX.same' e ty) h
theorem ok_pairs {f CE : Addr} {fd : FuncData} (F : Fun K "pairs_net" "pairs_net" sPairs f fd) (B : Bl mg) (e : Er K mg "NoNet" CE) (R : Cal P w K mg base CX0 1 "is_row" ["thing", "length"] (spRow K)) :
    FnOk P w K mg base (CXf P w) 2 f fd ["many", "pairs"] (spPairs K CE) := by
  refine F.okX scPairs (fun vs H Q E h => ?_) (fun cdv A outer s H vs Q E hr h => ?_)
  · obtain ⟨y, l, x, o, rfl, _⟩ := h
    rfl
  · obtain ⟨y, l, x, o, rfl, hl, rw', hw, k⟩ := h
    refine ⟨_, pss_cons (ps_if (pt_not (pt_val (pe_callB call_isi (by rfl) B.isi PyProof.Rows.boot_isinstance (pa_cons (pv 1) (pa_cons (pe_bltn (v := .ty "list") rfl B.lst PyProof.Rows.boot_list rfl) pa_nil))))) pss_never pss_nil)
      (pss_cons (ps_set (i := 2) scPairs.nd rfl (Or.inl rfl) (pe_lst pa_nil))
      (pss_cons (ps_for ownX rfl (pi_list (pv 1)) (pg_name (i := 3) scPairs.nd rfl (Or.inl rfl)) (pss_cons (ps_if (pt_not (pt_val (pe_cal R hr pass0 (pa_cons (pv 3) (pa_cons pe_int pa_nil)))))
        (pss_one (ps_raise (q := fun H1 => E (.ref CE) none H1) rfl e.ok rfl e.at_ (pa_cons pe_str pa_nil) (fun _ _ _ _ _ _ _ I m q => raise_xe I m q))) pss_nil) pss_never)) pss_never)), ?_⟩
    refine ⟨_, rfl, _, _, _, .type "list", true, rfl, ⟨rfl, kit_list⟩, .of (.lst hl), _, rfl, iteF ?_⟩
    refine ⟨by show 0 ≤ sizeLine; decide, fun D hD => ?_⟩
    have sm := same_new (o := .lst []) hD
    refine ⟨_, rfl, l, rfl, ⟨_, SqL.of (sm _ _ hl)⟩, for_list (K := K) (a := l) (xs := [x]) (fun i σ H2 => i = 0 ∧ H2 = upd H D (.lst []) ∧ ∃ a b c, σ = [some y, some (.ref l), some (.ref D), a, b, c]) ⟨rfl, rfl, _, _, _, rfl⟩ (fun i σ H2 _ ⟨_, e, _⟩ => by rw [e]; exact SqL.of (sm _ _ hl)) ?_ ?_⟩
    · rintro i z σ H2 hz ⟨rfl, rfl, a, b, c, rfl⟩
      obtain rfl : z = x := (Option.some.inj hz).symm
      refine ⟨_, rfl, z, o, 2, rfl, Rw.same sm rw', _, rfl, ?_⟩
      rw [hw]
      exact iteT ⟨by show 1 ≤ sizeLine; decide, k _ sm⟩
    · rintro σ H2 ⟨z, _⟩
      cases z
theorem scRing : FnScope ["many"] ["many"] (defScope sRing) := ⟨rfl, rfl, rfl, by decide +kernel, rfl, by decide +kernel, by decide +kernel⟩
/-- no whole number in these bounds: refused -/
def spRef (K : PySem.W.Frag) (CE : Addr) (lo hi : Int) (xs : V → List V) : Sp := fun vs H _ E => ∃ x o, vs = xs x ∧ Wh K H x o ∧ within o lo hi = false ∧ E (.ref CE) none H
theorem ok_ring {f CE : Addr} {fd : FuncData} (F : Fun K "ring_net" "ring_net" sRing f fd) (e : Er K mg "NoShape" CE) (gS : ∃ t, mg "SMALLEST_RING" = some (.int 3 t)) (gM : ∃ t, mg "MOST_HOUSES" = some (.int 32 t))
    (W : Cal P w K mg base CX0 2 "is_whole_within" ["thing", "least", "most"] (spWithin K)) : FnOk P w K mg base (CXf P w) 3 f fd ["many"] (spRef K CE 3 32 fun x => [x]) := by
  obtain ⟨tF, gF⟩ := gS
  obtain ⟨tM, gM⟩ := gM
  refine F.okX scRing (fun vs H Q E h => ?_) (fun cdv A outer s H vs Q E hr h => ?_)
  · obtain ⟨x, o, rfl, _⟩ := h
    rfl
  · obtain ⟨x, o, rfl, wh, hw, k⟩ := h
    refine ⟨_, pss_cons (ps_if (pt_not (pt_val (pe_cal W hr pass0 (pa_cons (pv 0) (pa_cons (pe_glob (v := .int 3) rfl gF ⟨_, rfl⟩) (pa_cons (pe_glob (v := .int 32) rfl gM ⟨_, rfl⟩) pa_nil))))))
        (pss_one (ps_raise (q := fun H1 => E (.ref CE) none H1) rfl e.ok rfl e.at_ (pa_cons pe_str pa_nil) (fun _ _ _ _ _ _ _ I m q => raise_xe I m q))) pss_nil) pss_never, ?_⟩
    refine ⟨_, rfl, x, o, 3, 32, rfl, wh, _, rfl, ?_⟩
    rw [hw]
    exact iteT ⟨by show 1 ≤ sizeLine; decide, k⟩
theorem scWords : FnScope ["figures", "base", "many"] ["figures", "base"] (defScope sWords) := ⟨rfl, rfl, rfl, by decide +kernel, rfl, by decide +kernel, by decide +kernel⟩
theorem ok_words {f CE : Addr} {fd : FuncData} (F : Fun K "words_net" "words_net" sWords f fd) (e : Er K mg "NoShape" CE) (gM : ∃ t, mg "MOST_FIGURES" = some (.int 5 t))
    (W : Cal P w K mg base CX0 2 "is_whole_within" ["thing", "least", "most"] (spWithin K)) : FnOk P w K mg base (CXf P w) 3 f fd ["figures", "base"] (spRef K CE 1 5 fun x => [x, x]) := by
  obtain ⟨tM, gM⟩ := gM
  refine F.okX scWords (fun vs H Q E h => ?_) (fun cdv A outer s H vs Q E hr h => ?_)
  · obtain ⟨x, o, rfl, _⟩ := h
    rfl
  · obtain ⟨x, o, rfl, wh, hw, k⟩ := h
    refine ⟨_, pss_cons (ps_if (pt_not (pt_val (pe_cal W hr pass0 (pa_cons (pv 0) (pa_cons pe_int (pa_cons (pe_glob (v := .int 5) rfl gM ⟨_, rfl⟩) pa_nil))))))
        (pss_one (ps_raise (q := fun H1 => E (.ref CE) none H1) rfl e.ok rfl e.at_ (pa_cons pe_str pa_nil) (fun _ _ _ _ _ _ _ I m q => raise_xe I m q))) pss_nil) pss_never, ?_⟩
    refine ⟨_, rfl, x, o, 1, 5, rfl, wh, _, rfl, ?_⟩
    rw [hw]
    exact iteT ⟨by show 1 ≤ sizeLine; decide, k⟩
theorem kit_list_tup {K : PySem.W.Frag} : PySem.W.kitOne K (.type "list") (.type "tuple") = some false := by kernel_rfl
theorem kit_list_str {K : PySem.W.Frag} : PySem.W.kitOne K (.type "list") (.type "str") = some false := by kernel_rfl
theorem scSides : FnScope ["sides", "side"] ["sides"] (defScope sSides) := ⟨rfl, rfl, rfl, by decide +kernel, rfl, by decide +kernel, by decide +kernel⟩
/-- a list where another thing is due: refused -/
def spLst (CE : Addr) : Sp := fun vs H _ E => ∃ l xs, vs = [.ref l] ∧ H l = some (.lst xs) ∧ E (.ref CE) none H
theorem ok_sides {f CE : Addr} {fd : FuncData} (F : Fun K "check_sides" "check_sides" sSides f fd) (B : Bl mg) (e : Er K mg "NoShape" CE) : FnOk P w K mg base (CXf P w) 1 f fd ["sides"] (spLst CE) := by
  refine F.okX scSides (fun vs H Q E h => ?_) (fun cdv A outer s H vs Q E hr h => ?_)
  · obtain ⟨l, xs, rfl, _⟩ := h
    rfl
  · obtain ⟨l, xs, rfl, hl, k⟩ := h
    refine ⟨_, pss_cons (ps_if (PW.pt (pw_or (pt_not (pt_val (pe_callB call_isi (by rfl) B.isi PyProof.Rows.boot_isinstance (pa_cons (pv 0) (pa_cons (pe_bltn (v := .ty "tuple") rfl B.tup PyProof.Rows.boot_tuple rfl) pa_nil))))) (pw_or1 pt_never)))
        (pss_one (ps_raise (q := fun H1 => E (.ref CE) none H1) rfl e.ok rfl e.at_ (pa_cons pe_str pa_nil) (fun _ _ _ _ _ _ _ I m q => raise_xe I m q))) pss_nil) pss_never, ?_⟩
    refine ⟨_, rfl, _, _, _, .type "list", false, rfl, ⟨rfl, kit_list_tup⟩, .of (.lst hl), _, rfl, ?_⟩
    exact iteT (iteT ⟨by show 1 ≤ sizeLine; decide, k⟩)
theorem scBox : FnScope ["sides"] ["sides"] (defScope sBox) := ⟨rfl, rfl, rfl, by decide +kernel, rfl, by decide +kernel, by decide +kernel⟩
theorem ok_box {f CE : Addr} {fd : FuncData} (F : Fun K "box_net" "box_net" sBox f fd) (S : Cal P w K mg base (CXf P w) 1 "check_sides" ["sides"] (spLst CE)) : FnOk P w K mg base (CXf P w) 2 f fd ["sides"] (spLst CE) := by
  refine F.okX scBox (fun vs H Q E h => ?_) (fun cdv A outer s H vs Q E hr h => ?_)
  · obtain ⟨l, xs, rfl, _⟩ := h
    rfl
  · obtain ⟨l, xs, rfl, hl, k⟩ := h
    refine ⟨_, pss_cons (ps_expr (pe_cal S hr (passX (E' := E) fun _ _ _ z => z) (pa_cons (pv 0) pa_nil))) pss_never, ?_⟩
    exact ⟨_, rfl, l, xs, rfl, hl, k⟩
theorem scRead : FnScope ["text", "net"] ["text"] (defScope sRead) := ⟨rfl, rfl, rfl, by decide +kernel, rfl, by decide +kernel, by decide +kernel⟩
theorem ok_read {f CE : Addr} {fd : FuncData} (F : Fun K "read_net" "read_net" sRead f fd) (B : Bl mg) (e : Er K mg "NoText" CE) : FnOk P w K mg base (CXf P w) 1 f fd ["text"] (spLst CE) := by
  refine F.okX scRead (fun vs H Q E h => ?_) (fun cdv A outer s H vs Q E hr h => ?_)
  · obtain ⟨l, xs, rfl, _⟩ := h
    rfl
  · obtain ⟨l, xs, rfl, hl, k⟩ := h
    refine ⟨_, pss_cons (ps_if (pt_not (pt_val (pe_callB call_isi (by rfl) B.isi PyProof.Rows.boot_isinstance (pa_cons (pv 0) (pa_cons (pe_bltn (v := .ty "str") rfl B.str PyProof.Rows.boot_str rfl) pa_nil)))))
        (pss_one (ps_raise (q := fun H1 => E (.ref CE) none H1) rfl e.ok rfl e.at_ (pa_cons pe_str pa_nil) (fun _ _ _ _ _ _ _ I m q => raise_xe I m q))) pss_nil) pss_never, ?_⟩
    refine ⟨_, rfl, _, _, _, .type "list", false, rfl, ⟨rfl, kit_list_str⟩, .of (.lst hl), _, rfl, ?_⟩
    exact iteT ⟨by show 1 ≤ sizeLine; decide, k⟩
theorem scTied : FnScope ["net", "one", "other"] ["net", "one", "other"] (defScope sTied) := ⟨rfl, rfl, rfl, by decide +kernel, rfl, by decide +kernel, by decide +kernel⟩
def spTied (K : PySem.W.Frag) (C : Addr) : Sp := fun vs H Q _ => ∃ p n x o, vs = [.ref p, x, x] ∧ NetAt K C H p n ∧ Wh K H x o ∧ within o 0 ((n : Int) - 1) = false ∧ Q (.bl false) H
theorem nmany (n : Int) (tl ol ds : Addr) : (flds n tl ol ds).lookup ("many" : Str) = none := flds_no n tl ol ds (by decide +kernel) (by decide +kernel) (by decide +kernel) (by decide +kernel)
theorem ok_tied {f C : Addr} {fd : FuncData} (F : Fun K "are_tied" "are_tied" sTied f fd) (T : NT K mg C) (M : MCal P w K mg base CX0 1 C "many" ["self"] (spMany K C)) (HH : Cal P w K mg base CX0 3 "is_house" ["many", "thing"] (spHouse K)) :
    FnOk P w K mg base CX0 4 f fd ["net", "one", "other"] (spTied K C) := by
  obtain ⟨fM, fdM, mM, bM, GM⟩ := M.ex
  refine F.ok scTied (fun vs H Q E h => ?_) (fun cdv A outer s H vs Q E hr h => ?_)
  · obtain ⟨p, n, x, o, rfl, _⟩ := h
    rfl
  · obtain ⟨p, n, x, o, rfl, N, wh, hw, k⟩ := h
    obtain ⟨⟨dx, tl, ol, ds, h1, _⟩⟩ := id N
    refine ⟨_, pss_cons (ps_if (PW.pt (pw_or (pt_not (pt_val (pe_cal HH hr pass0 (pa_cons (pe_meth0 (pv 0) T.cl mM GM (hr.mono (by decide)) bM .nil pass0) (pa_cons (pv 1) pa_nil))))) (pw_or1 pt_never))) (pss_one (ps_ret pe_bl)) pss_nil) pss_never, ?_⟩
    refine ⟨_, rfl, p, dx, _, rfl, h1, nmany _ _ _ _, p, n, rfl, N, _, rfl, x, o, n, rfl, wh, _, rfl, ?_⟩
    rw [hw]
    exact iteT (iteT k)
theorem scWithout : FnScope ["net", "one", "other", "gone"] ["net", "one", "other"] (defScope sWithout) := ⟨rfl, rfl, rfl, by decide +kernel, rfl, by decide +kernel, by decide +kernel⟩
theorem ok_without {f C CE : Addr} {fd : FuncData} (F : Fun K "without" "without" sWithout f fd) (e : Er K mg "NoTie" CE) (TI : Cal P w K mg base CX0 4 "are_tied" ["net", "one", "other"] (spTied K C)) :
    FnOk P w K mg base (CXf P w) 5 f fd ["net", "one", "other"] (spRefuse K C CE fun x => [x, x]) := by
  refine F.okX scWithout (fun vs H Q E h => ?_) (fun cdv A outer s H vs Q E hr h => ?_)
  · obtain ⟨p, n, x, o, rfl, _⟩ := h
    rfl
  · obtain ⟨p, n, x, o, rfl, N, wh, hw, k⟩ := h
    refine ⟨_, pss_cons (ps_if (pt_not (pt_val (pe_cal TI hr pass0 (pa_cons (pv 0) (pa_cons (pv 1) (pa_cons (pv 2) pa_nil))))))
        (pss_one (ps_raise (q := fun H1 => E (.ref CE) none H1) rfl e.ok rfl e.at_ (pa_cons pe_str pa_nil) (fun _ _ _ _ _ _ _ I m q => raise_xe I m q))) pss_nil) pss_never, ?_⟩
    exact ⟨_, rfl, _, rfl, _, rfl, p, n, x, o, rfl, N, wh, hw, _, rfl, iteT ⟨by show 1 ≤ sizeLine; decide, k⟩⟩
end
end K19

set_option Elab.async false
set_option linter.all false
set_option maxRecDepth 100000
set_option maxHeartbeats 4000000
namespace K19
open PySem L2
abbrev sPot : Stmt := top 57
abbrev sDigit : Stmt := top 58
abbrev sText : Stmt := top 59
abbrev sOrder : Stmt := top 66
/-- a pot of digits -/
def PotAt (H : Hp) (p : Addr) : Prop := ∃ a b : Int, H p = some (.lst [.int a, .int b]) ∧ 0 ≤ a ∧ 0 ≤ b ∧ b < 2147483647
/-- all but the pot stays -/
def SameE (p : Addr) (H H' : Hp) : Prop := ∀ b o, H b = some o → b ≠ p → H' b = some o
theorem SameE.refl {p : Addr} {H : Hp} : SameE p H H := fun _ _ h _ => h
theorem SameE.trans {p : Addr} {H H1 H2 : Hp} (a : SameE p H H1) (b : SameE p H1 H2) : SameE p H H2 := fun c o h n => b c o (a c o h n) n
theorem SameE.upd {p : Addr} {H : Hp} {o : HO} : SameE p H (upd H p o) := fun b u h n => by rw [upd_ne n]; exact h
theorem SameE.of {p : Addr} {H H' : Hp} (s : Same H H') : SameE p H H' := fun b o h _ => s b o h
theorem PotAt.same {H H' : Hp} {p : Addr} (h : PotAt H p) (s : Same H H') : PotAt H' p := let ⟨a, b, e, r⟩ := h; ⟨a, b, s _ _ e, r⟩
section
variable {P : Program} {w : World} {K : PySem.W.Frag} {mg : Str → Option Value} {base : Heap}
theorem scPot : FnScope ["_law_script", "_law_k", "_law_cell"] ["_law_script", "_law_k"] (defScope sPot) := ⟨rfl, rfl, rfl, by decide +kernel, rfl, by decide +kernel, by decide +kernel⟩
def spPot (K : PySem.W.Frag) : Sp := fun vs H Q _ => ∃ (a : Addr) (ns : List Int) (k : Nat), vs = [.ref a, .int k] ∧ SqL K H a (ns.map V.int) ∧ k < 64 ∧ ∀ (r : Addr) (H' : Hp), Same H H' → H r = none → PotAt H' r → Q (.ref r) H'
theorem pow_lt {x : Int} (h0 : 0 ≤ x) (h1 : x < 2 ^ 63) : x.natAbs < 2 ^ 64 := by omega
theorem ok_pot {f : Addr} {fd : FuncData} (F : Fun K "_law_pot" "_law_pot" sPot f fd) (B : Bl mg) : FnOk P w K mg base CX0 1 f fd ["_law_script", "_law_k"] (spPot K) := by
  refine F.ok scPot (fun vs H Q E h => ?_) (fun cdv A outer s H vs Q E hr h => ?_)
  · obtain ⟨a, ns, k, rfl, _⟩ := h
    rfl
  · obtain ⟨a, ns, k, rfl, hS, hk, q⟩ := h
    refine ⟨_, pss_cons (ps_set (i := 2) scPot.nd rfl (Or.inl rfl) pe_int)
      (pss_cons (ps_if (pt_cmpR op_lt (pv 1) (pe_callB call_len_seq (by rfl) B.len PySem.boot_len (pa_cons (pv 0) pa_nil)) (nomark _)) (pss_one (ps_set (i := 2) scPot.nd rfl (Or.inl rfl) (pe_ix ix_list (pv 0) (pv 1) (fun _ _ => rfl)))) pss_nil)
      (pss_one (ps_ret (pe_lst (pa_cons (pe_callB (call_max2 rfl) (by rfl) B.max PyProof.Rows.boot_max (pa_cons pe_int (pa_cons (pe_op op_sub (pv 2) (pe_op op_pow pe_int pe_int)) pa_nil)))
        (pa_cons (pe_op op_mod (pe_op op_pow (pe_op op_add (pe_op op_mod (pv 2) pe_int) (pe_op op_mul pe_int (pe_op op_add (pv 1) pe_int))) pe_int) pe_int) pa_nil)))))), ?_⟩
    have fin : ∀ c : Int, tRet (tLst (tCons (tCB (fun xs H Q => ∃ i j, xs = [V.int i, .int j] ∧ Q (.int (if j > i then j else i)) H) (tCons (tC (.int 0)) (tCons (tOp (rI0 fun i j => .int (i - j)) (tVar 2) (tOp (rI CPow fun i j => .int (i ^ j.toNat)) (tC (.int 10)) (tC (.int 18)))) tNil)))
        (tCons (tOp (rI (fun _ j => 0 < j) fun i j => .int (i % j)) (tOp (rI CPow fun i j => .int (i ^ j.toNat)) (tOp (rI0 fun i j => .int (i + j)) (tOp (rI (fun _ j => 0 < j) fun i j => .int (i % j)) (tVar 2) (tC (.int 2147483629))) (tOp (rI CMul fun i j => .int (i * j)) (tC (.int 7919)) (tOp (rI0 fun i j => .int (i + j)) (tVar 1) (tC (.int 1))))) (tC (.int 3))) (tC (.int 2147483647))) tNil)))
        { nx := fun _ H' => Q .non H', rt := Q } [some (.ref a), some (.int k), some (.int c)] H := fun c => by
      have m0 : 0 ≤ c % 2147483629 := Int.emod_nonneg _ (by decide)
      have m1 : c % 2147483629 < 2147483629 := Int.emod_lt_of_pos _ (by decide)
      refine ⟨_, rfl, _, _, rfl, rfl, ⟨by decide, by decide, by decide⟩, _, _, rfl, rfl, 0, _, rfl, ?_⟩
      refine ⟨_, rfl, _, _, rfl, rfl, (by show (0 : Int) < 2147483629; decide), _, rfl, _, _, rfl, rfl, _, _, rfl, rfl, .inl ⟨by decide, by decide⟩, _, _, rfl, rfl, _, _, rfl, rfl, ⟨by decide, by decide, ?_⟩, _, _, rfl, rfl, (by show (0 : Int) < 2147483647; decide), by show 2 ≤ sizeLine; decide, fun r hr' => ?_⟩
      · refine pow_lt (by omega) (by omega)
      · refine q r _ (same_new hr') hr' ⟨_, _, upd_same, ?_, Int.emod_nonneg _ (by decide), Int.emod_lt_of_pos _ (by decide)⟩
        split <;> omega
    refine ⟨_, rfl, _, rfl, a, ns.map V.int, rfl, .inl hS, _, _, rfl, rfl, _, rfl, ?_⟩
    refine ite2 (fun e => ?_) (fun e => ?_)
    · have hlt : k < ns.length := by
        have : (k : Int) < ((ns.map V.int).length : Int) := by simpa using e
        rw [List.length_map] at this; omega
      refine ⟨_, rfl, _, rfl, a, _, _, _, rfl, rfl, hS, atI_nat (v := .int ns[k]) (by rw [List.getElem?_map, List.getElem?_eq_getElem hlt]; rfl), ?_⟩
      exact fin _
    · exact fin _
theorem scDigit : FnScope ["_law_pot_here", "_law_many", "_law_digit_here"] ["_law_pot_here", "_law_many"] (defScope sDigit) := ⟨rfl, rfl, rfl, by decide +kernel, rfl, by decide +kernel, by decide +kernel⟩
def spDigit : Sp := fun vs H Q _ => ∃ (p : Addr) (m : Int), vs = [.ref p, .int m] ∧ 0 < m ∧ m < 1000000 ∧ PotAt H p ∧ ∀ (d a b : Int), 0 ≤ d → d < m → 0 ≤ a → 0 ≤ b → b < 2147483647 → Q (.int d) (upd H p (.lst [.int a, .int b]))
theorem ok_digit {f : Addr} {fd : FuncData} (F : Fun K "_law_digit" "_law_digit" sDigit f fd) : FnOk P w K mg base CX0 1 f fd ["_law_pot_here", "_law_many"] spDigit := by
  refine F.ok scDigit (fun vs H Q E h => ?_) (fun cdv A outer s H vs Q E hr h => ?_)
  · obtain ⟨p, m, rfl, _⟩ := h
    rfl
  · obtain ⟨p, m, rfl, m0, m1, ⟨a, b, hp, a0, b0, b1⟩, q⟩ := h
    refine ⟨_, pss_cons (ps_if (pt_cmpR op_gt (pe_ix ix_list (pv 0) pe_int (fun _ _ => rfl)) pe_int (nomark _))
        (pss_cons (ps_set (i := 2) scDigit.nd rfl (Or.inl rfl) (pe_op op_mod (pe_ix ix_list (pv 0) pe_int (fun _ _ => rfl)) (pv 1)))
        (pss_cons (ps_asg (pe_op op_fdiv (pe_ix ix_list (pv 0) pe_int (fun _ _ => rfl)) (pv 1)) (pg_sub (pv 0) pe_int set_list))
        (pss_one (ps_ret (pv 2))))) pss_nil)
      (pss_cons (ps_asg (pe_op op_mod (pe_op op_add (pe_op op_mul (pe_ix ix_list (pv 0) pe_int (fun _ _ => rfl)) pe_int) pe_int) pe_int) (pg_sub (pv 0) pe_int set_list))
      (pss_one (ps_ret (pe_op op_mod (pe_op op_fdiv (pe_op op_mod (pe_op op_pow (pe_ix ix_list (pv 0) pe_int (fun _ _ => rfl)) pe_int) pe_int) pe_int) (pv 1))))), ?_⟩
    have g0 : atI [V.int a, V.int b] 0 = some (.int a) := atI_nat (j := 0) rfl
    have g1 : atI [V.int a, V.int b] 1 = some (.int b) := atI_nat (j := 1) rfl
    refine ⟨_, rfl, p, _, _, _, rfl, rfl, SqL.of hp, g0, _, _, rfl, rfl, _, rfl, ?_⟩
    refine ite2 (fun e => ?_) (fun e => ?_)
    · refine ⟨_, rfl, p, _, _, _, rfl, rfl, SqL.of hp, g0, _, rfl, _, _, rfl, rfl, m0, ?_⟩
      refine ⟨_, rfl, p, _, _, _, rfl, rfl, SqL.of hp, g0, _, rfl, _, _, rfl, rfl, ⟨m0, by omega⟩, ?_⟩
      refine ⟨_, rfl, p, _, 0, 0, rfl, rfl, hp, ixN_nat (j := 0) (by show 0 < 2; decide), ?_⟩
      refine ⟨_, rfl, ?_⟩
      exact q _ _ _ (Int.emod_nonneg _ (by omega)) (Int.emod_lt_of_pos _ m0) (Int.ediv_nonneg a0 (by omega)) b0 b1
    · refine ⟨_, rfl, p, _, _, _, rfl, rfl, SqL.of hp, g1, _, _, rfl, rfl, .inl ⟨by omega, by omega⟩, _, _, rfl, rfl, _, _, rfl, rfl, (by show (0 : Int) < 2147483647; decide), ?_⟩
      refine ⟨_, rfl, p, _, 1, 1, rfl, rfl, hp, ixN_nat (j := 1) (by show 1 < 2; decide), ?_⟩
      have c0 : 0 ≤ (b * 48271 + 11) % 2147483647 := Int.emod_nonneg _ (by decide)
      have c1 : (b * 48271 + 11) % 2147483647 < 2147483647 := Int.emod_lt_of_pos _ (by decide)
      refine ⟨_, rfl, p, _, _, _, rfl, rfl, SqL.of upd_same, atI_nat (j := 1) rfl, _, _, rfl, rfl, ⟨by decide, by decide, pow_lt c0 (by omega)⟩, _, _, rfl, rfl, (by show (0 : Int) < 2147483629; decide), _, _, rfl, rfl, ⟨by decide, by decide⟩, _, rfl, _, _, rfl, rfl, m0, ?_⟩
      exact q _ _ _ (Int.emod_nonneg _ (by omega)) (Int.emod_lt_of_pos _ m0) a0 c0 c1
end
end K19

set_option Elab.async false
set_option linter.all false
set_option maxRecDepth 100000
set_option maxHeartbeats 4000000
namespace K19
open PySem L2
theorem nbT : (["_law_k", "_law_pot_here", "_law_signs"] : List Str).Nodup := by decide +kernel
theorem nbO2 : (["_law_k", "_law_left", "_law_pot_here"] : List Str).Nodup := by decide +kernel
def signs : Str := " !\"#$&'()*+,-./0123456789:;<=>?@ABCDEFGHIJKLMNOPQRSTUVWXYZ[]^_`abcdefghijklmnopqrstuvwxyz{|}~"
theorem signs_len : signs.length = 93 := by decide +kernel
theorem signs_list : signs.cps.toList.length = 93 := by decide +kernel
theorem PotAt.upd {H : Hp} {p : Addr} {a b : Int} (h1 : 0 ≤ a) (h2 : 0 ≤ b) (h3 : b < 2147483647) : PotAt (upd H p (.lst [.int a, .int b])) p := ⟨a, b, upd_same, h1, h2, h3⟩
section
variable {P : Program} {w : World} {K : PySem.W.Frag} {mg : Str → Option Value} {base : Heap}
theorem scText : FnScope ["_law_pot_here", "_law_signs"] ["_law_pot_here"] (defScope sText) := ⟨rfl, rfl, rfl, by decide +kernel, rfl, by decide +kernel, by decide +kernel⟩
def spText : Sp := fun vs H Q _ => ∃ (p : Addr), vs = [.ref p] ∧ PotAt H p ∧ ∀ (z : Str) (H' : Hp), SameE p H H' → PotAt H' p → Q (.str z) H'
theorem ok_text {f : Addr} {fd : FuncData} (F : Fun K "_law_text" "_law_text" sText f fd) (B : Bl mg) (D : Cal P w K mg base CX0 1 "_law_digit" ["_law_pot_here", "_law_many"] spDigit) : FnOk P w K mg base CX0 2 f fd ["_law_pot_here"] spText := by
  refine F.ok scText (fun vs H Q E h => ?_) (fun cdv A outer s H vs Q E hr h => ?_)
  · obtain ⟨p, rfl, _⟩ := h
    rfl
  · obtain ⟨p, rfl, hp, q⟩ := h
    refine' ⟨_, pss_cons (ps_set (i := 1) scText.nd rfl (Or.inr rfl) pe_str)
      (pss_one (ps_ret (pe_bm PySem.F.plainAttrs_str PySem.F.slot_str_join PySem.F.type_str_join mt_join pe_str (pa_cons ?c pa_nil)))), ?_⟩
    case c =>
      refine' pe_comp (g := gName 0) (te := tOp rIxS (tVar 2) (tCall spDigit [] E0 (tCons (tVar 1) (tCons (tCB (fun xs H Q => ∃ z, xs = [V.str z] ∧ z.length ≤ sizeLine ∧ Q (.int z.length) H) (tCons (tVar 2) tNil)) tNil)))) (NB := ["_law_k", "_law_pot_here", "_law_signs"]) (src := [none, some 0, some 1]) (blk_of (by kernel_rfl)) rfl
        (pi_range1 rfl B.range (pa_cons (pe_cal D hr pass0 (pa_cons (pv 0) (pa_cons pe_int pa_nil))) pa_nil)) ?g ?t ?e
      case g => exact fun cl C s₃ H₃ fp => pg_name (i := 0) nbT rfl (Or.inl rfl) (Or.inr rfl)
      case t => exact fun cl C s₃ H₃ fp => pts_nil
      case e => exact fun cl C s₃ H₃ fp => pe_ix ix_str (pv 2) (pe_cal D hr pass0 (pa_cons (pv 1) (pa_cons (pe_callB call_len_str (by rfl) B.len PySem.boot_len (pa_cons (pv 2) pa_nil)) pa_nil))) (fun _ _ => rfl)
    refine ⟨rfl, _, rfl, p, 21, rfl, by decide, by decide, hp, fun d a b d0 d1 a0 b0 b1 => ?_⟩
    refine ⟨d, rfl, by omega, by omega, fun D' hD => ?_⟩
    have np : p ≠ D' := ne_of_none upd_same hD
    refine comp_range (n := d.toNat) (lo := 0) (fun i ys σ H2 => (∃ k, σ = [k, some (.ref p), some (.str signs)]) ∧ (∃ zs : List Str, ys = zs.map V.str ∧ zs.length = i ∧ ∀ z ∈ zs, z.length = 1) ∧ SameE p H H2 ∧ PotAt H2 p ∧ H2 D' = some (.lst ys)) ⟨⟨_, rfl⟩, ⟨[], rfl, rfl, (fun z hz => nomatch hz)⟩, ?_, ?_, upd_same⟩ ?_ ?_
    · intro b' o e h
      have e' : (upd H p (.lst [.int a, .int b])) b' = some o := by rw [upd_ne h]; exact e
      rw [upd_ne (ne_of_none e' hD)]; exact e'
    · exact (PotAt.upd a0 b0 b1).same (same_new hD)
    · rintro i ys σ H2 Kt Kf hi ⟨⟨k', rfl⟩, ⟨zs, rfl, hz, hz1⟩, sm, hp2, hD2⟩ kt kf
      refine ⟨_, rfl, _, rfl, _, rfl, signs, rfl, by rw [signs_len]; decide, p, _, rfl, by rw [signs_len]; decide, by rw [signs_len]; decide, hp2, fun d2 a2 b2 e0 e1 f0 g0 g1 => ?_⟩
      rw [signs_len] at e1
      have hlt : d2.toNat < signs.cps.toList.length := by rw [signs_list]; omega
      refine ⟨signs, d2, signs.cps.toList[d2.toNat], rfl, rfl, by rw [signs_len]; decide, ?_, ?_⟩
      · have := atI_nat (xs := signs.cps.toList) (j := d2.toNat) (v := signs.cps.toList[d2.toNat]) (List.getElem?_eq_getElem hlt)
        rw [Int.toNat_of_nonneg e0] at this
        exact this
      · have nD : D' ≠ p := np.symm
        have hsz : (zs.map V.str).length < sizeLine := by
          rw [List.length_map, hz]
          have h21 : d.toNat ≤ 21 := by omega
          exact Nat.lt_of_lt_of_le hi (Nat.le_trans h21 (by decide))
        refine kt _ _ _ (by rw [upd_ne nD]; exact hD2) hsz ⟨⟨_, rfl⟩, ⟨zs ++ [⟨#[signs.cps.toList[d2.toNat]]⟩], by rw [List.map_append]; rfl, by rw [List.length_append, hz]; rfl, ?_⟩, ?_, ?_, upd_same⟩
        · intro z hz'
          rcases List.mem_append.mp hz' with h | h
          · exact hz1 z h
          · rw [List.mem_singleton.mp h]; rfl
        · intro b' o e h
          have nb : b' ≠ D' := by
            intro z
            have e' : (upd H p (.lst [.int a, .int b])) b' = some o := by rw [upd_ne h]; exact e
            rw [z, hD] at e'; cases e'
          rw [upd_ne nb, upd_ne h]; exact sm _ _ e h
        · exact ⟨a2, b2, by rw [upd_ne np, upd_same], f0, g0, g1⟩
    · rintro ys σ H2 ⟨_, ⟨zs, rfl, hz, hz1⟩, sm, hp2, hD2⟩
      refine ⟨"", D', zs, rfl, rfl, SqL.of hD2, ?_, q _ _ sm hp2⟩
      have e1 : (zs.map (·.length)).sum = zs.length := by
        have go : ∀ (l : List Str), (∀ z ∈ l, z.length = 1) → (l.map (·.length)).sum = l.length := by
          intro l
          induction l with
          | nil => intro _; rfl
          | cons z l ih => intro h; simp only [List.map_cons, List.sum_cons, List.length_cons]; rw [h z List.mem_cons_self, ih fun y hy => h y (List.mem_cons_of_mem _ hy)]; omega
        exact go zs hz1
      rw [e1, hz]
      have e2 : ("" : Str).length = 0 := by decide +kernel
      rw [e2]
      omega
theorem scOrder : FnScope ["_law_pot_here", "_law_many", "_law_left"] ["_law_pot_here", "_law_many"] (defScope sOrder) := ⟨rfl, rfl, rfl, by decide +kernel, rfl, by decide +kernel, by decide +kernel⟩
/-- numbers below 8 -/
def Few (xs : List V) : Prop := ∀ x ∈ xs, ∃ i : Nat, x = .int i ∧ i < 8
def spOrder : Sp := fun vs H Q _ => ∃ (p : Addr), vs = [.ref p, .int 8] ∧ PotAt H p ∧ ∀ (r : Addr) (xs : List V) (H' : Hp), SameE p H H' → PotAt H' p → H r = none → H' r = some (.lst xs) → Few xs → xs.length = 8 → Q (.ref r) H'
theorem ok_order {f : Addr} {fd : FuncData} (F : Fun K "_law_order" "_law_order" sOrder f fd) (B : Bl mg) (D : Cal P w K mg base CX0 1 "_law_digit" ["_law_pot_here", "_law_many"] spDigit) : FnOk P w K mg base CX0 2 f fd ["_law_pot_here", "_law_many"] spOrder := by
  refine F.ok scOrder (fun vs H Q E h => ?_) (fun cdv A outer s H vs Q E hr h => ?_)
  · obtain ⟨p, rfl, _⟩ := h
    rfl
  · obtain ⟨p, rfl, hp, q⟩ := h
    refine' ⟨_, pss_cons (ps_set (i := 2) scOrder.nd rfl (Or.inr rfl) (pe_callTy (call_listR rfl) (by rfl) B.lst PyProof.Rows.boot_list (pa_cons (pe_callTy call_rangeV (by rfl) B.range PyProof.Rows.boot_range (pa_cons (pv 1) pa_nil)) pa_nil)))
      (pss_one (ps_ret ?c)), ?_⟩
    case c =>
      refine' pe_comp (g := gName 0) (te := tBM K "list" rPopAt (tVar 1) (tCons (tCall spDigit [] E0 (tCons (tVar 2) (tCons (tCB (fun xs H Q => ∃ p ys, xs = [V.ref p] ∧ (SqL K H p ys ∨ SqT K H p ys) ∧ Q (.int ys.length) H) (tCons (tVar 1) tNil)) tNil))) tNil)) (NB := ["_law_k", "_law_left", "_law_pot_here"]) (src := [none, some 2, some 0]) (blk_of (by kernel_rfl)) rfl
        (pi_range1 rfl B.range (pa_cons (pv 1) pa_nil)) ?g ?t ?e
      case g => exact fun cl C s₃ H₃ fp => pg_name (i := 0) nbO2 rfl (Or.inl rfl) (Or.inr rfl)
      case t => exact fun cl C s₃ H₃ fp => pts_nil
      case e => exact fun cl C s₃ H₃ fp => pe_bm PySem.F.plainAttrs_list PySem.F.slot_list_pop PySem.F.type_list_pop mt_popAt (pv 1) (pa_cons (pe_cal D hr pass0 (pa_cons (pv 2) (pa_cons (pe_callB call_len_seq (by rfl) B.len PySem.boot_len (pa_cons (pv 1) pa_nil)) pa_nil))) pa_nil)
    refine ⟨_, rfl, 8, rfl, fun R hR => ⟨R, 8, rfl, upd_same, by decide, fun L hL => ?_⟩⟩
    have hLH : H L = none := by
      cases z : H L with
      | none => rfl
      | some o => rw [same_new hR _ _ z] at hL; cases hL
    have s0 : Same H (upd (upd H R (.rng 0 8)) L (.lst ((List.range 8).map fun (i : Nat) => V.int i))) := (same_new hR).trans (same_new hL)
    refine ⟨_, rfl, 8, rfl, by decide, by decide, fun D' hD => ?_⟩
    have hDH : H D' = none := s0.free hD
    have npL : p ≠ L := by obtain ⟨a, b, e, _⟩ := hp; exact ne_of_none e hLH
    have npD : p ≠ D' := by obtain ⟨a, b, e, _⟩ := hp; exact ne_of_none e hDH
    have nLD : L ≠ D' := ne_of_none upd_same hD
    refine comp_range (n := 8) (lo := 0) (fun i ys σ H2 => (∃ k, σ = [k, some (.ref L), some (.ref p)]) ∧ (∃ ls, H2 L = some (.lst ls) ∧ Few ls ∧ ls.length = 8 - i) ∧ Few ys ∧ ys.length = i ∧ SameE p H H2 ∧ PotAt H2 p ∧ H2 D' = some (.lst ys))
      ⟨⟨_, rfl⟩, ⟨_, by rw [upd_ne nLD, upd_same], fun x hx => ?_, rfl⟩, (fun x hx => nomatch hx), rfl, fun b o e h => ?_, ?_, upd_same⟩ ?_ ?_
    · obtain ⟨i, hi, rfl⟩ := List.mem_map.mp hx
      exact ⟨i, rfl, List.mem_range.mp hi⟩
    · rw [upd_ne (ne_of_none (s0 _ _ e) hD)]; exact s0 _ _ e
    · exact (hp.same s0).same (same_new hD)
    · rintro i ys σ H2 Kt Kf hi ⟨⟨k', rfl⟩, ⟨ls, hL2, fL, lL⟩, fy, ly, sm, hp2, hD2⟩ kt kf
      refine ⟨_, rfl, .inl ⟨rfl, _, SqL.of hL2⟩, _, rfl, _, rfl, L, ls, rfl, .inl (SqL.of hL2), p, _, rfl, by omega, by omega, hp2, fun d a b d0 d1 a0 b0 b1 => ?_⟩
      have hdl : d.toNat < ls.length := by omega
      refine ⟨L, ls, d, d.toNat, ls[d.toNat], rfl, rfl, by rw [upd_ne npL.symm]; exact hL2, by omega, by omega, ?_, List.getElem?_eq_getElem hdl, ?_⟩
      · have := (ixN_seq (ixN_nat hdl)).1
        rw [Int.toNat_of_nonneg d0] at this
        exact this
      · have nDL : D' ≠ L := nLD.symm
        refine kt _ _ _ (by rw [upd_ne nDL, upd_ne npD.symm]; exact hD2) (by rw [ly]; exact Nat.lt_of_lt_of_le hi (by decide)) ⟨⟨_, rfl⟩, ⟨_, by rw [upd_ne nLD, upd_same], fun x hx => fL x (List.mem_of_mem_eraseIdx hx), ?_⟩, fun x hx => ?_, by rw [List.length_append, ly]; rfl, fun b' o e h => ?_, ?_, upd_same⟩
        · rw [List.length_eraseIdx, if_pos hdl, lL]; omega
        · rcases List.mem_append.mp hx with h | h
          · exact fy x h
          · rw [List.mem_singleton.mp h]; exact fL _ (List.getElem_mem hdl)
        · rw [upd_ne (ne_of_none e hDH), upd_ne (ne_of_none e hLH), upd_ne h]; exact sm _ _ e h
        · exact ⟨a, b, by rw [upd_ne npD, upd_ne npL, upd_same], a0, b0, b1⟩
    · rintro ys σ H2 ⟨_, _, fy, ly, sm, hp2, hD2⟩
      exact q D' ys H2 sm hp2 hDH hD2 fy ly
end
end K19

set_option Elab.async false
set_option linter.all false
set_option maxRecDepth 100000
set_option maxHeartbeats 4000000
namespace K19
open PySem L2
abbrev sKinds : Stmt := top 60
abbrev sBare : Stmt := top 61
abbrev sWorded : Stmt := top 62
abbrev sMade : Stmt := top 63
/-- the own errors, in the order in which the law asks for them -/
structure Errs (K : PySem.W.Frag) (mg : Str → Option Value) (cB : Addr) (c : Nat → Addr) : Prop where
  beat : Er K mg "BeatError" cB
  e0 : Er K mg "NoNet" (c 0)
  e1 : Er K mg "NoShape" (c 1)
  e2 : Er K mg "NoTie" (c 2)
  e3 : Er K mg "NoText" (c 3)
  e4 : Er K mg "NoHouse" (c 4)
  e5 : Er K mg "NoRanks" (c 5)
  e6 : Er K mg "NoStand" (c 6)
  e7 : Er K mg "NoBerth" (c 7)
  e8 : Er K mg "NoHanding" (c 8)
  e9 : Er K mg "NoPlan" (c 9)
  e10 : Er K mg "TooMany" (c 10)
  e11 : Er K mg "NoRow" (c 11)
  kk : ∀ i j, i < 12 → j < 12 → PySem.W.kitOne K (.ref (c i)) (.ref (c j)) = some (decide (i = j))
  kb : ∀ j, j < 12 → PySem.W.kitOne K (.ref cB) (.ref (c j)) = some false
  kv : ∀ i, i < 12 → PySem.W.kitOne K (.ref (c i)) (.type "ValueError") = some true
  kvb : PySem.W.kitOne K (.ref cB) (.type "ValueError") = some true
  sb : ∀ i, i < 12 → PySem.W.subIn K (.ref (c i)) (.ref cB) = some true
theorem Errs.ok {K : PySem.W.Frag} {mg : Str → Option Value} {cB : Addr} {c : Nat → Addr} (E : Errs K mg cB c) : ∀ i, i < 12 → ECls K (c i)
  | 0, _ => E.e0.ok
  | 1, _ => E.e1.ok
  | 2, _ => E.e2.ok
  | 3, _ => E.e3.ok
  | 4, _ => E.e4.ok
  | 5, _ => E.e5.ok
  | 6, _ => E.e6.ok
  | 7, _ => E.e7.ok
  | 8, _ => E.e8.ok
  | 9, _ => E.e9.ok
  | 10, _ => E.e10.ok
  | 11, _ => E.e11.ok
  | i + 12, h => absurd h (by omega)
def HoldsA (H : Hp) (as : List Addr) (n : Nat) (o : Nat → Addr → HO) : Prop := as.length = n ∧ ∀ j, j < n → H (as.getD j 0) = some (o j (as.getD j 0))
theorem HoldsA.nil {H : Hp} {o : Nat → Addr → HO} : HoldsA H [] 0 o := ⟨rfl, fun j hj => absurd hj (by omega)⟩
theorem HoldsA.new {H : Hp} {as : List Addr} {n : Nat} {o : Nat → Addr → HO} {t : Addr} (h : HoldsA H as n o) (ht : H t = none) : HoldsA (upd H t (o n t)) (as ++ [t]) (n + 1) o := by
  refine ⟨by rw [List.length_append, h.1]; rfl, fun j hj => ?_⟩
  rw [getD_snoc h.1]
  by_cases e : j = n
  · rw [if_pos e, e, upd_same]
  · rw [if_neg e]
    have q := h.2 j (by omega)
    rw [upd_ne (ne_of_none q ht)]; exact q
theorem HoldsA.same {H H' : Hp} {as : List Addr} {n : Nat} {o : Nat → Addr → HO} (h : HoldsA H as n o) (e : Same H H') : HoldsA H' as n o := ⟨h.1, fun j hj => e _ _ (h.2 j hj)⟩
def boolsL (bs : Nat → Bool) : List V := (List.range 12).map fun i => V.bl (bs i)
section
variable {P : Program} {w : World} {K : PySem.W.Frag} {mg : Str → Option Value} {base : Heap}
theorem scKinds : FnScope ["_law_e", "_law_first", "_law_second", "_law_third"] ["_law_e"] (defScope sKinds) := ⟨rfl, rfl, rfl, by decide +kernel, rfl, by decide +kernel, by decide +kernel⟩
def spKinds (K : PySem.W.Frag) (c : Nat → Addr) : Sp := fun vs H Q _ => ∃ (x C : Addr) (bs : Nat → Bool), vs = [.ref x] ∧ ECls K C ∧ H x = some (excO x (.ref C)) ∧ (∀ i, i < 12 → PySem.W.kitOne K (.ref C) (.ref (c i)) = some (bs i)) ∧
  ∀ (r : Addr) (H' : Hp), Same H H' → H r = none → H' r = some (.lst (boolsL bs)) → Q (.ref r) H'
theorem ok_kinds {f cB : Addr} {c : Nat → Addr} {fd : FuncData} (F : Fun K "_law_kinds" "_law_kinds" sKinds f fd) (B : Bl mg) (R : Errs K mg cB c) : FnOkW P w K mg base (CXf P w) 1 f fd ["_law_e"] (spKinds K c) := by
  refine F.okW scKinds (fun vs H Q E h => ?_) (fun cdv A outer s H vs Q E hr h => ?_)
  · obtain ⟨x, C, bs, rfl, _⟩ := h
    rfl
  · obtain ⟨x, C, bs, rfl, T, hx, hb, q⟩ := h
    refine ⟨_, pss_cons (ps_set (i := 1) scKinds.nd rfl (Or.inl rfl) (pe_lst (pa_cons (pe_callB call_isiC (by rfl) B.isi PyProof.Rows.boot_isinstance (pa_cons (pv 0) (pa_cons (pe_glob (v := .ref (c 0)) rfl R.e0.at_ rfl) pa_nil))) (pa_cons (pe_callB call_isiC (by rfl) B.isi PyProof.Rows.boot_isinstance (pa_cons (pv 0) (pa_cons (pe_glob (v := .ref (c 1)) rfl R.e1.at_ rfl) pa_nil))) (pa_cons (pe_callB call_isiC (by rfl) B.isi PyProof.Rows.boot_isinstance (pa_cons (pv 0) (pa_cons (pe_glob (v := .ref (c 2)) rfl R.e2.at_ rfl) pa_nil))) (pa_cons (pe_callB call_isiC (by rfl) B.isi PyProof.Rows.boot_isinstance (pa_cons (pv 0) (pa_cons (pe_glob (v := .ref (c 3)) rfl R.e3.at_ rfl) pa_nil))) pa_nil))))))
      (pss_cons (ps_set (i := 2) scKinds.nd rfl (Or.inl rfl) (pe_lst (pa_cons (pe_callB call_isiC (by rfl) B.isi PyProof.Rows.boot_isinstance (pa_cons (pv 0) (pa_cons (pe_glob (v := .ref (c 4)) rfl R.e4.at_ rfl) pa_nil))) (pa_cons (pe_callB call_isiC (by rfl) B.isi PyProof.Rows.boot_isinstance (pa_cons (pv 0) (pa_cons (pe_glob (v := .ref (c 5)) rfl R.e5.at_ rfl) pa_nil))) (pa_cons (pe_callB call_isiC (by rfl) B.isi PyProof.Rows.boot_isinstance (pa_cons (pv 0) (pa_cons (pe_glob (v := .ref (c 6)) rfl R.e6.at_ rfl) pa_nil))) (pa_cons (pe_callB call_isiC (by rfl) B.isi PyProof.Rows.boot_isinstance (pa_cons (pv 0) (pa_cons (pe_glob (v := .ref (c 7)) rfl R.e7.at_ rfl) pa_nil))) pa_nil))))))
      (pss_cons (ps_set (i := 3) scKinds.nd rfl (Or.inl rfl) (pe_lst (pa_cons (pe_callB call_isiC (by rfl) B.isi PyProof.Rows.boot_isinstance (pa_cons (pv 0) (pa_cons (pe_glob (v := .ref (c 8)) rfl R.e8.at_ rfl) pa_nil))) (pa_cons (pe_callB call_isiC (by rfl) B.isi PyProof.Rows.boot_isinstance (pa_cons (pv 0) (pa_cons (pe_glob (v := .ref (c 9)) rfl R.e9.at_ rfl) pa_nil))) (pa_cons (pe_callB call_isiC (by rfl) B.isi PyProof.Rows.boot_isinstance (pa_cons (pv 0) (pa_cons (pe_glob (v := .ref (c 10)) rfl R.e10.at_ rfl) pa_nil))) (pa_cons (pe_callB call_isiC (by rfl) B.isi PyProof.Rows.boot_isinstance (pa_cons (pv 0) (pa_cons (pe_glob (v := .ref (c 11)) rfl R.e11.at_ rfl) pa_nil))) pa_nil))))))
      (pss_one (ps_ret (pe_op op_cat (pe_op op_cat (pv 1) (pv 2)) (pv 3)))))), ?_⟩
    refine ⟨_, rfl, _, _, _, _, rfl, hb 0 (by decide), .exc T hx, _, rfl, _, _, _, _, rfl, hb 1 (by decide), .exc T hx, _, rfl, _, _, _, _, rfl, hb 2 (by decide), .exc T hx, _, rfl, _, _, _, _, rfl, hb 3 (by decide), .exc T hx, by show 4 ≤ sizeLine; decide, fun r1 h1 => ?_⟩
    have s1 := same_new (o := .lst [.bl (bs 0), .bl (bs 1), .bl (bs 2), .bl (bs 3)]) h1
    refine ⟨_, rfl, _, _, _, _, rfl, hb 4 (by decide), .exc T (s1 _ _ hx), _, rfl, _, _, _, _, rfl, hb 5 (by decide), .exc T (s1 _ _ hx), _, rfl, _, _, _, _, rfl, hb 6 (by decide), .exc T (s1 _ _ hx), _, rfl, _, _, _, _, rfl, hb 7 (by decide), .exc T (s1 _ _ hx), by show 4 ≤ sizeLine; decide, fun r2 h2 => ?_⟩
    have s2 := s1.trans (same_new (o := .lst [.bl (bs 4), .bl (bs 5), .bl (bs 6), .bl (bs 7)]) h2)
    refine ⟨_, rfl, _, _, _, _, rfl, hb 8 (by decide), .exc T (s2 _ _ hx), _, rfl, _, _, _, _, rfl, hb 9 (by decide), .exc T (s2 _ _ hx), _, rfl, _, _, _, _, rfl, hb 10 (by decide), .exc T (s2 _ _ hx), _, rfl, _, _, _, _, rfl, hb 11 (by decide), .exc T (s2 _ _ hx), by show 4 ≤ sizeLine; decide, fun r3 h3 => ?_⟩
    have s3 := s2.trans (same_new (o := .lst [.bl (bs 8), .bl (bs 9), .bl (bs 10), .bl (bs 11)]) h3)
    have g1 := same_new (o := .lst [.bl (bs 4), .bl (bs 5), .bl (bs 6), .bl (bs 7)]) h2 _ _ (upd_same (H := H) (a := r1) (o := .lst [.bl (bs 0), .bl (bs 1), .bl (bs 2), .bl (bs 3)]))
    have g1' := same_new (o := .lst [.bl (bs 8), .bl (bs 9), .bl (bs 10), .bl (bs 11)]) h3 _ _ g1
    have g2 := same_new (o := .lst [.bl (bs 8), .bl (bs 9), .bl (bs 10), .bl (bs 11)]) h3 _ _ (upd_same (H := upd H r1 (.lst [.bl (bs 0), .bl (bs 1), .bl (bs 2), .bl (bs 3)])) (a := r2) (o := .lst [.bl (bs 4), .bl (bs 5), .bl (bs 6), .bl (bs 7)]))
    refine ⟨_, rfl, _, rfl, r1, r2, _, _, rfl, rfl, g1', g2, by show 8 ≤ sizeLine; decide, fun r4 h4 => ?_⟩
    have s4 := s3.trans (same_new (o := .lst ([.bl (bs 0), .bl (bs 1), .bl (bs 2), .bl (bs 3)] ++ [.bl (bs 4), .bl (bs 5), .bl (bs 6), .bl (bs 7)])) h4)
    refine ⟨_, rfl, r4, r3, _, _, rfl, rfl, upd_same, same_new h4 _ _ upd_same, by show 12 ≤ sizeLine; decide, fun r5 h5 => ?_⟩
    exact q r5 _ (s4.trans (same_new h5)) (s4.free h5) upd_same
/-- a list of the twelve errors -/
def spTwelve (c : Nat → Addr) (xs : List V → Prop) : Sp := fun vs H Q _ => xs vs ∧ ∀ (r : Addr) (as : List Addr) (H' : Hp), Same H H' → H r = none → H' r = some (.lst (as.map V.ref)) → HoldsA H' as 12 (fun i p => excO p (.ref (c i))) → Q (.ref r) H'
theorem scBare : FnScope ["_law_found"] [] (defScope sBare) := ⟨rfl, rfl, rfl, by decide +kernel, rfl, by decide +kernel, by decide +kernel⟩
theorem ok_bare {f cB : Addr} {c : Nat → Addr} {fd : FuncData} (F : Fun K "_law_bare" "_law_bare" sBare f fd) (R : Errs K mg cB c) : FnOk P w K mg base CX0 1 f fd [] (spTwelve c fun vs => vs = []) := by
  refine F.ok scBare (fun vs H Q E h => ?_) (fun cdv A outer s H vs Q E hr h => ?_)
  · obtain ⟨rfl, _⟩ := h
    rfl
  · obtain ⟨rfl, q⟩ := h
    refine ⟨_, pss_cons (ps_set (i := 0) scBare.nd rfl (Or.inl rfl) (pe_lst (pa_cons (pe_xmake0 R.e0.ok rfl R.e0.at_) (pa_cons (pe_xmake0 R.e1.ok rfl R.e1.at_) (pa_cons (pe_xmake0 R.e2.ok rfl R.e2.at_) (pa_cons (pe_xmake0 R.e3.ok rfl R.e3.at_) (pa_cons (pe_xmake0 R.e4.ok rfl R.e4.at_) (pa_cons (pe_xmake0 R.e5.ok rfl R.e5.at_) (pa_cons (pe_xmake0 R.e6.ok rfl R.e6.at_) (pa_cons (pe_xmake0 R.e7.ok rfl R.e7.at_) (pa_cons (pe_xmake0 R.e8.ok rfl R.e8.at_) (pa_cons (pe_xmake0 R.e9.ok rfl R.e9.at_) pa_nil))))))))))))
      (pss_one (ps_ret (pe_op op_cat (pv 0) (pe_lst (pa_cons (pe_xmake0 R.e10.ok rfl R.e10.at_) (pa_cons (pe_xmake0 R.e11.ok rfl R.e11.at_) pa_nil)))))), ?_⟩
    refine ⟨by show 0 ≤ sizeLine; decide, fun p0 h0 => ⟨by show 0 ≤ sizeLine; decide, fun p1 h1 => ⟨by show 0 ≤ sizeLine; decide, fun p2 h2 => ⟨by show 0 ≤ sizeLine; decide, fun p3 h3 => ⟨by show 0 ≤ sizeLine; decide, fun p4 h4 => ⟨by show 0 ≤ sizeLine; decide, fun p5 h5 => ⟨by show 0 ≤ sizeLine; decide, fun p6 h6 => ⟨by show 0 ≤ sizeLine; decide, fun p7 h7 => ⟨by show 0 ≤ sizeLine; decide, fun p8 h8 => ⟨by show 0 ≤ sizeLine; decide, fun p9 h9 => ?_⟩⟩⟩⟩⟩⟩⟩⟩⟩⟩
    have A := HoldsA.nil (H := H) (o := fun i p => excO p (.ref (c i))) |>.new h0 |>.new h1 |>.new h2 |>.new h3 |>.new h4 |>.new h5 |>.new h6 |>.new h7 |>.new h8 |>.new h9
    have S := (Same.refl H) |>.trans (same_new (o := excO p0 (.ref (c 0))) h0) |>.trans (same_new (o := excO p1 (.ref (c 1))) h1) |>.trans (same_new (o := excO p2 (.ref (c 2))) h2) |>.trans (same_new (o := excO p3 (.ref (c 3))) h3) |>.trans (same_new (o := excO p4 (.ref (c 4))) h4) |>.trans (same_new (o := excO p5 (.ref (c 5))) h5) |>.trans (same_new (o := excO p6 (.ref (c 6))) h6) |>.trans (same_new (o := excO p7 (.ref (c 7))) h7) |>.trans (same_new (o := excO p8 (.ref (c 8))) h8) |>.trans (same_new (o := excO p9 (.ref (c 9))) h9)
    refine ⟨by show 10 ≤ sizeLine; decide, fun r1 g1 => ?_⟩
    have S1 := S.trans (same_new (o := .lst [.ref p0, .ref p1, .ref p2, .ref p3, .ref p4, .ref p5, .ref p6, .ref p7, .ref p8, .ref p9]) g1)
    have A1 := A.same (same_new (o := .lst [.ref p0, .ref p1, .ref p2, .ref p3, .ref p4, .ref p5, .ref p6, .ref p7, .ref p8, .ref p9]) g1)
    refine ⟨_, rfl, by show 0 ≤ sizeLine; decide, fun p10 h10 => ⟨by show 0 ≤ sizeLine; decide, fun p11 h11 => ?_⟩⟩
    have A2 := A1 |>.new h10 |>.new h11
    have S2 := (Same.refl _) |>.trans (same_new (o := excO p10 (.ref (c 10))) h10) |>.trans (same_new (o := excO p11 (.ref (c 11))) h11)
    refine ⟨by show 2 ≤ sizeLine; decide, fun r2 g2 => ?_⟩
    have S3 := S2.trans (same_new (o := .lst [.ref p10, .ref p11]) g2)
    have A3 := A2.same (same_new (o := .lst [.ref p10, .ref p11]) g2)
    refine ⟨r1, r2, _, _, rfl, rfl, S3 _ _ upd_same, upd_same, by show 12 ≤ sizeLine; decide, fun r3 g3 => ?_⟩
    exact q r3 _ _ ((S1.trans S3).trans (same_new g3)) ((S1.trans S3).free g3) upd_same (A3.same (same_new g3))
theorem scWorded : FnScope ["_law_text_here", "_law_found"] ["_law_text_here"] (defScope sWorded) := ⟨rfl, rfl, rfl, by decide +kernel, rfl, by decide +kernel, by decide +kernel⟩
theorem ok_worded {f cB : Addr} {c : Nat → Addr} {fd : FuncData} (F : Fun K "_law_worded" "_law_worded" sWorded f fd) (R : Errs K mg cB c) : FnOk P w K mg base CX0 1 f fd ["_law_text_here"] (spTwelve c fun vs => ∃ z, vs = [.str z]) := by
  refine F.ok scWorded (fun vs H Q E h => ?_) (fun cdv A outer s H vs Q E hr h => ?_)
  · obtain ⟨⟨z, rfl⟩, _⟩ := h
    rfl
  · obtain ⟨⟨z, rfl⟩, q⟩ := h
    refine ⟨_, pss_cons (ps_set (i := 1) scWorded.nd rfl (Or.inl rfl) (pe_lst (pa_cons (pe_xmake R.e0.ok rfl R.e0.at_ (pa_cons (pv 0) pa_nil)) (pa_cons (pe_xmake R.e1.ok rfl R.e1.at_ (pa_cons (pv 0) pa_nil)) (pa_cons (pe_xmake R.e2.ok rfl R.e2.at_ (pa_cons (pv 0) pa_nil)) (pa_cons (pe_xmake R.e3.ok rfl R.e3.at_ (pa_cons (pv 0) pa_nil)) (pa_cons (pe_xmake R.e4.ok rfl R.e4.at_ (pa_cons (pv 0) pa_nil)) (pa_cons (pe_xmake R.e5.ok rfl R.e5.at_ (pa_cons (pv 0) pa_nil)) (pa_cons (pe_xmake R.e6.ok rfl R.e6.at_ (pa_cons (pv 0) pa_nil)) pa_nil)))))))))
      (pss_one (ps_ret (pe_op op_cat (pv 1) (pe_lst (pa_cons (pe_xmake R.e7.ok rfl R.e7.at_ (pa_cons (pv 0) pa_nil)) (pa_cons (pe_xmake R.e8.ok rfl R.e8.at_ (pa_cons (pv 0) pa_nil)) (pa_cons (pe_xmake R.e9.ok rfl R.e9.at_ (pa_cons (pv 0) pa_nil)) (pa_cons (pe_xmake R.e10.ok rfl R.e10.at_ (pa_cons (pv 0) pa_nil)) (pa_cons (pe_xmake R.e11.ok rfl R.e11.at_ (pa_cons (pv 0) pa_nil)) pa_nil))))))))), ?_⟩
    refine ⟨_, rfl, by show 1 ≤ sizeLine; decide, fun p0 h0 => ⟨_, rfl, by show 1 ≤ sizeLine; decide, fun p1 h1 => ⟨_, rfl, by show 1 ≤ sizeLine; decide, fun p2 h2 => ⟨_, rfl, by show 1 ≤ sizeLine; decide, fun p3 h3 => ⟨_, rfl, by show 1 ≤ sizeLine; decide, fun p4 h4 => ⟨_, rfl, by show 1 ≤ sizeLine; decide, fun p5 h5 => ⟨_, rfl, by show 1 ≤ sizeLine; decide, fun p6 h6 => ?_⟩⟩⟩⟩⟩⟩⟩
    have A := HoldsA.nil (H := H) (o := fun i p => excO p (.ref (c i))) |>.new h0 |>.new h1 |>.new h2 |>.new h3 |>.new h4 |>.new h5 |>.new h6
    have S := (Same.refl H) |>.trans (same_new (o := excO p0 (.ref (c 0))) h0) |>.trans (same_new (o := excO p1 (.ref (c 1))) h1) |>.trans (same_new (o := excO p2 (.ref (c 2))) h2) |>.trans (same_new (o := excO p3 (.ref (c 3))) h3) |>.trans (same_new (o := excO p4 (.ref (c 4))) h4) |>.trans (same_new (o := excO p5 (.ref (c 5))) h5) |>.trans (same_new (o := excO p6 (.ref (c 6))) h6)
    refine ⟨by show 7 ≤ sizeLine; decide, fun r1 g1 => ?_⟩
    have S1 := S.trans (same_new (o := .lst [.ref p0, .ref p1, .ref p2, .ref p3, .ref p4, .ref p5, .ref p6]) g1)
    have A1 := A.same (same_new (o := .lst [.ref p0, .ref p1, .ref p2, .ref p3, .ref p4, .ref p5, .ref p6]) g1)
    refine ⟨_, rfl, _, rfl, by show 1 ≤ sizeLine; decide, fun p7 h7 => ⟨_, rfl, by show 1 ≤ sizeLine; decide, fun p8 h8 => ⟨_, rfl, by show 1 ≤ sizeLine; decide, fun p9 h9 => ⟨_, rfl, by show 1 ≤ sizeLine; decide, fun p10 h10 => ⟨_, rfl, by show 1 ≤ sizeLine; decide, fun p11 h11 => ?_⟩⟩⟩⟩⟩
    have A2 := A1 |>.new h7 |>.new h8 |>.new h9 |>.new h10 |>.new h11
    have S2 := (Same.refl _) |>.trans (same_new (o := excO p7 (.ref (c 7))) h7) |>.trans (same_new (o := excO p8 (.ref (c 8))) h8) |>.trans (same_new (o := excO p9 (.ref (c 9))) h9) |>.trans (same_new (o := excO p10 (.ref (c 10))) h10) |>.trans (same_new (o := excO p11 (.ref (c 11))) h11)
    refine ⟨by show 5 ≤ sizeLine; decide, fun r2 g2 => ?_⟩
    have S3 := S2.trans (same_new (o := .lst [.ref p7, .ref p8, .ref p9, .ref p10, .ref p11]) g2)
    have A3 := A2.same (same_new (o := .lst [.ref p7, .ref p8, .ref p9, .ref p10, .ref p11]) g2)
    refine ⟨r1, r2, _, _, rfl, rfl, S3 _ _ upd_same, upd_same, by show 12 ≤ sizeLine; decide, fun r3 g3 => ?_⟩
    exact q r3 _ _ ((S1.trans S3).trans (same_new g3)) ((S1.trans S3).free g3) upd_same (A3.same (same_new g3))
end
end K19

set_option Elab.async false
set_option linter.all false
set_option maxRecDepth 100000
set_option maxHeartbeats 4000000
namespace K19
open PySem L2
/-- a def that may be called within an except suite, too -/
structure CalW (P : Program) (w : World) (K : PySem.W.Frag) (mg : Str → Option Value) (base : Heap) (k : Nat) (x : Str) (ps : List Str) (sp : Sp) : Prop where
  ex : ∃ f fd, mg x = some (.ref f) ∧ PySem.W.keepIn K (.ref f) = true ∧ Binds K fd ps [] ∧ FnOkW P w K mg base (CXf P w) k f fd ps sp
theorem CalW.cal {P : Program} {w : World} {K : PySem.W.Frag} {mg : Str → Option Value} {base : Heap} {k : Nat} {x : Str} {ps : List Str} {sp : Sp} (C : CalW P w K mg base k x ps sp) : Cal P w K mg base (CXf P w) k x ps sp :=
  let ⟨f, fd, a, b, c, d⟩ := C.ex; ⟨f, fd, a, b, c, d.ok⟩
theorem pe_cal0 {X : Cx} {CX : CXT} {k : Nat} {x : Str} {ps : List Str} {sp : Sp} {E : XK} {p pos : Pos} (C : Cal X.prog X.w X.K X.mg X.base CX k x ps sp) (hr : Room k X.A) (hx : Passes CX X E) (hg : Gl X x := by rfl)
    (hdb : (x == ("__debug__" : Str)) = false := by decide) : PE X (.Call (.Name x p) [] [] pos) (tCall sp [] E tNil) := by
  obtain ⟨f, fd, a, b, c, d⟩ := C.ex
  exact pe_call0 d hr hg a b c .nil hx hdb
theorem nbJK : (["_law_j", "_law_k"] : List Str).Nodup := by decide +kernel
theorem allEq_bools {bs : Nat → Bool} : ∀ l : List Nat, allEq eqV (l.map fun i => V.bl (bs i)) (l.map fun i => V.bl (bs i)) = true
  | [] => rfl
  | i :: l => by
    rw [List.map_cons]
    show (eqV (V.bl (bs i)) (V.bl (bs i)) && allEq eqV (l.map fun i => V.bl (bs i)) (l.map fun i => V.bl (bs i))) = true
    rw [allEq_bools l]
    show ((bs i == bs i) && true) = true
    simp
theorem flat_bools {bs : Nat → Bool} (i : Nat) : flatV ((boolsL bs).getD i .non) = true := by
  unfold boolsL
  rw [List.getD_eq_getElem?_getD, List.getElem?_map]
  cases (List.range 12)[i]? <;> rfl
theorem bVerr : bootBuiltins "ValueError" = some (.type "ValueError") := by decide +kernel
section
variable {P : Program} {w : World} {K : PySem.W.Frag} {mg : Str → Option Value} {base : Heap}
theorem scMade : FnScope ["_law_text_here", "_law_made", "_law_k", "_law_e"] ["_law_text_here"] (defScope sMade) := ⟨rfl, rfl, rfl, by decide +kernel, rfl, by decide +kernel, by decide +kernel⟩
def spMade : Sp := fun vs H Q _ => ∃ z, vs = [.str z] ∧ ∀ H', Same H H' → Q (.bl true) H'
/-- [k == j for j in range(12)] -/
theorem comp_eq {H : Hp} {D : Addr} {k : Int} {fin : Hp → Prop} {a : Option V} (hD : H D = none) (hd : fin (upd H D (.lst (boolsL fun j => decide (k = (j : Int)))))) :
    CompW (Itr 0 12) (gName 0) tYes (tOp rEq (tVar 1) (tVar 0)) D fin [a, some (.int k)] (upd H D (.lst [])) := by
  refine comp_range (n := 12) (lo := 0) (fun i ys σ H2 => (∃ a, σ = [a, some (.int k)]) ∧ ys = ((List.range i).map fun (j : Nat) => V.bl (decide (k = (j : Int)))) ∧ H2 = upd H D (.lst ys)) ⟨⟨_, rfl⟩, rfl, rfl⟩ ?_ ?_
  · rintro i ys σ H2 Kt Kf hi ⟨⟨a', rfl⟩, rfl, rfl⟩ kt kf
    refine ⟨_, rfl, _, rfl, rfl, ?_⟩
    refine kt _ _ _ upd_same (by rw [List.length_map, List.length_range]; exact Nat.lt_of_lt_of_le hi (by decide)) ⟨⟨_, rfl⟩, ?_, by rw [upd_upd]⟩
    rw [List.range_succ, List.map_append]
    have e : decide (V.int k = V.int (0 + (i : Int))) = decide (k = (i : Int)) := by rw [Int.zero_add]; simp
    rw [e]
    rfl
  · rintro ys σ H2 ⟨_, rfl, rfl⟩
    exact hd
theorem ok_made {f cB : Addr} {c : Nat → Addr} {fd : FuncData} (F : Fun K "_law_made_right" "_law_made_right" sMade f fd) (B : Bl mg) (R : Errs K mg cB c) (KI : CalW P w K mg base 1 "_law_kinds" ["_law_e"] (spKinds K c))
    (BA : Cal P w K mg base CX0 1 "_law_bare" [] (spTwelve c fun vs => vs = [])) (WO : Cal P w K mg base CX0 1 "_law_worded" ["_law_text_here"] (spTwelve c fun vs => ∃ z, vs = [.str z])) :
    FnOk P w K mg base CX0 2 f fd ["_law_text_here"] spMade := by
  refine F.ok scMade (fun vs H Q E h => ?_) (fun cdv A outer s H vs Q E hr h => ?_)
  · obtain ⟨z, rfl, _⟩ := h
    rfl
  · obtain ⟨z, rfl, q⟩ := h
    have hu : (A.deeper (PyProof.Rows.envOfC "_law_made_right" (defScope sMade) s.heap.objs.size f cdv)).units + 2 < cLine := by have := hr.un; omega
    refine' ⟨_, pss_cons (ps_for PassesOwn.never rfl (pi_list (pe_lst (pa_cons (pe_cal0 BA hr pass0) (pa_cons (pe_cal WO hr pass0 (pa_cons (pv 0) pa_nil)) pa_nil)))) (pg_name (i := 1) scMade.nd rfl (Or.inl rfl))
        (pss_one (ps_for PassesOwn.never rfl (pi_range1 rfl B.range (pa_cons pe_int pa_nil)) (pg_name (i := 2) scMade.nd rfl (Or.inr rfl))
          (pss_one (ps_if (PW.pt (pw_or (pt_not (pt_val (pe_callB call_isi (by rfl) B.isi PyProof.Rows.boot_isinstance (pa_cons (pe_ix ix_list (pv 1) (pv 2) (fun _ _ => rfl)) (pa_cons (pe_bltn (v := .ty "ValueError") rfl B.verr bVerr rfl) pa_nil)))))
            (pw_or1 (pt_cmpR (op_neL (e := eqV) hu) (pe_cal KI.cal hr passN (pa_cons (pe_ix ix_list (pv 1) (pv 2) (fun _ _ => rfl)) pa_nil)) ?c (nomark _))))) pss_never pss_nil)))))
      (pss_cons (ps_for PassesOwn.never rfl (pi_list (pe_lst (pa_cons (pe_xmake0 R.beat.ok rfl R.beat.at_) (pa_cons (pe_xmake R.beat.ok rfl R.beat.at_ (pa_cons (pv 0) pa_nil)) pa_nil)))) (pg_name (i := 3) scMade.nd rfl (Or.inl rfl))
        (pss_one (ps_if (PW.pt (pw_or (pt_not (pt_val (pe_callB call_isi (by rfl) B.isi PyProof.Rows.boot_isinstance (pa_cons (pv 3) (pa_cons (pe_bltn (v := .ty "ValueError") rfl B.verr bVerr rfl) pa_nil)))))
            (pw_or1 (pt_cmpR op_in_seq pe_bl (pe_cal KI.cal hr passN (pa_cons (pv 3) pa_nil)) rfl)))) pss_never pss_nil)))
      (pss_one (ps_ret pe_bl))), ?_⟩
    case c =>
      refine' pe_comp (g := gName 0) (tt := tYes) (te := tOp rEq (tVar 1) (tVar 0)) (NB := ["_law_j", "_law_k"]) (src := [none, some 2]) (blk_of (by kernel_rfl)) rfl (pi_range1 rfl B.range (pa_cons pe_int pa_nil)) ?g ?t ?e
      case g => exact fun cl C s₃ H₃ fp => pg_name (i := 0) nbJK rfl (Or.inl rfl) (Or.inr rfl)
      case t => exact fun cl C s₃ H₃ fp => pts_nil
      case e => exact fun cl C s₃ H₃ fp => pe_cmpR op_eq (pv 1) (pv 0) (nomark _)
    refine ⟨rfl, fun r1 as1 H1 s1 n1 g1 A1 => ⟨_, rfl, ⟨z, rfl⟩, fun r2 as2 H2 s2 n2 g2 A2 => ?_⟩⟩
    refine ⟨by show 2 ≤ sizeLine; decide, fun L hL => ?_⟩
    have s3 := same_new (o := .lst [.ref r1, .ref r2]) hL
    have s03 : Same H (upd H2 L (.lst [.ref r1, .ref r2])) := (s1.trans s2).trans s3
    have a1 := A1.same (s2.trans s3)
    have a2 := A2.same s3
    have g1' := (s2.trans s3) _ _ g1
    have g2' := s3 _ _ g2
    refine ⟨L, rfl, ⟨_, SqL.of upd_same⟩, for_list (K := K) (a := L) (xs := [.ref r1, .ref r2]) (fun i σ H3 => Same (upd H2 L (.lst [.ref r1, .ref r2])) H3 ∧ ∃ x y e, σ = [some (.str z), x, y, e]) ⟨Same.refl _, _, _, _, rfl⟩ (fun i σ H3 _ ⟨sm, _⟩ => SqL.of (sm _ _ upd_same)) ?_ ?_⟩
    · rintro i x σ H3 hx ⟨sm, x0, y0, e0, rfl⟩
      obtain ⟨r, as, rfl, gr, Ar⟩ : ∃ r as, x = .ref r ∧ (upd H2 L (.lst [.ref r1, .ref r2])) r = some (.lst (as.map V.ref)) ∧ HoldsA (upd H2 L (.lst [.ref r1, .ref r2])) as 12 (fun i p => excO p (.ref (c i))) := by
        have hi := (List.getElem?_eq_some_iff.mp hx).1
        have hi' : i < 2 := hi
        match i, hi' with
        | 0, _ => exact ⟨r1, as1, (Option.some.inj hx).symm, g1', a1⟩
        | 1, _ => exact ⟨r2, as2, (Option.some.inj hx).symm, g2', a2⟩
      refine ⟨12, rfl, by decide, by decide, for_range (n := 12) (lo := 0) (fun k σ H4 => Same (upd H2 L (.lst [.ref r1, .ref r2])) H4 ∧ ∃ y e, σ = [some (.str z), some (.ref r), y, e]) ⟨sm, _, _, rfl⟩ ?_ ?_⟩
      · rintro k σ H4 hk ⟨sm4, y1, e1, rfl⟩
        have hex : H4 (as.getD k 0) = some (excO (as.getD k 0) (.ref (c k))) := sm4 _ _ (Ar.2 k hk)
        have hget : (as.map V.ref)[k]? = some (.ref (as.getD k 0)) := by
          have : k < as.length := by rw [Ar.1]; exact hk
          rw [List.getElem?_map, List.getD_eq_getElem?_getD, List.getElem?_eq_getElem this]; rfl
        have hat : atI (as.map V.ref) (0 + (k : Int)) = some (.ref (as.getD k 0)) := by rw [Int.zero_add]; exact atI_nat hget
        refine ⟨_, rfl, _, rfl, r, _, _, _, rfl, rfl, SqL.of (sm4 _ _ gr), hat, _, _, _, .ref (c k), true, rfl, ⟨rfl, R.kv k hk⟩, .exc (R.ok k hk) hex, _, rfl, iteF ?_⟩
        refine ⟨_, rfl, _, rfl, r, _, _, _, rfl, rfl, SqL.of (sm4 _ _ gr), hat, as.getD k 0, c k, fun j => decide (k = j), rfl, R.ok k hk, hex, fun j hj => R.kk k j hk hj, fun r5 H5 s5 n5 g5 => ?_⟩
        refine ⟨12, rfl, by decide, by decide, fun D hD => comp_eq hD ?_⟩
        have s6 := same_new (o := .lst (boolsL fun j => decide ((0 : Int) + (k : Int) = (j : Int)))) hD
        have eb : (boolsL fun j => decide ((0 : Int) + (k : Int) = (j : Int))) = boolsL fun j => decide (k = j) := by
          unfold boolsL
          refine List.map_congr_left fun j _ => ?_
          have : decide ((0 : Int) + (k : Int) = (j : Int)) = decide (k = j) := by rw [Int.zero_add]; exact decide_eq_decide.mpr Int.ofNat_inj
          exact congrArg V.bl this
        refine ⟨r5, D, _, _, rfl, rfl, SqL.of (s6 _ _ g5), SqL.of upd_same, fun i _ _ => elEq_flat (flat_bools i) (flat_bools i), _, rfl, ?_⟩
        rw [eb] at s6 ⊢
        rw [show allEq eqV (boolsL fun j => decide (k = j)) (boolsL fun j => decide (k = j)) = true from allEq_bools _]
        exact iteF ⟨(sm4.trans s5).trans s6, _, _, rfl⟩
      · rintro σ H4 ⟨sm4, y1, e1, rfl⟩
        exact ⟨sm4, _, _, _, rfl⟩
    · rintro σ H3 ⟨sm, x0, y0, e0, rfl⟩
      -- the second loop
      refine ⟨by show 0 ≤ sizeLine; decide, fun p1 h1 => ⟨_, rfl, by show 1 ≤ sizeLine; decide, fun p2 h2 => ⟨by show 2 ≤ sizeLine; decide, fun L2 hL2 => ?_⟩⟩⟩
      have t1 := same_new (o := excO p1 (.ref cB)) h1
      have t2 := same_new (o := excO p2 (.ref cB)) h2
      have t3 := same_new (o := .lst [.ref p1, .ref p2]) hL2
      refine ⟨L2, rfl, ⟨_, SqL.of upd_same⟩, for_list (K := K) (a := L2) (xs := [.ref p1, .ref p2]) (fun i σ H4 => Same (upd (upd (upd H3 p1 (excO p1 (.ref cB))) p2 (excO p2 (.ref cB))) L2 (.lst [.ref p1, .ref p2])) H4 ∧ ∃ x y e, σ = [some (.str z), x, y, e]) ⟨Same.refl _, _, _, _, rfl⟩ (fun i σ H3 _ ⟨sm, _⟩ => SqL.of (sm _ _ upd_same)) ?_ ?_⟩
      · rintro i x σ H4 hx ⟨sm4, x1, y1, e1, rfl⟩
        obtain ⟨p, rfl, gp⟩ : ∃ p, x = .ref p ∧ H4 p = some (excO p (.ref cB)) := by
          have hi := (List.getElem?_eq_some_iff.mp hx).1
          have hi' : i < 2 := hi
          match i, hi' with
          | 0, _ => exact ⟨p1, (Option.some.inj hx).symm, sm4 _ _ (t3 _ _ (t2 _ _ upd_same))⟩
          | 1, _ => exact ⟨p2, (Option.some.inj hx).symm, sm4 _ _ (t3 _ _ upd_same)⟩
        refine ⟨_, rfl, _, _, _, .ref cB, true, rfl, ⟨rfl, R.kvb⟩, .exc R.beat.ok gp, _, rfl, iteF ?_⟩
        refine ⟨_, rfl, p, cB, fun _ => false, rfl, R.beat.ok, gp, fun j hj => R.kb j hj, fun r5 H5 s5 n5 g5 => ?_⟩
        exact ⟨r5, _, rfl, .inl (SqL.of g5), rfl, by decide, _, rfl, iteF ⟨sm4.trans s5, _, _, _, rfl⟩⟩
      · rintro σ H4 ⟨sm4, x1, y1, e1, rfl⟩
        exact q H4 ((((s03.trans sm).trans t1).trans t2).trans t3 |>.trans sm4)
end
end K19

set_option Elab.async false
set_option linter.all false
set_option maxRecDepth 100000
set_option maxHeartbeats 4000000
namespace L2
open PySem PySem.Spec PyProof.Rows
/-- {}, a new dict -/
def tDct : TE := fun _ H Q => ∀ p, H p = none → Q (.ref p) (upd H p (.dK []))
theorem pe_dct {X : Cx} {pos : Pos} : PE X (.Dict [] [] pos) tDct := by
  intro pins s σ H Q I h
  have hs : sysModules < s.heap.objs.size := Nat.lt_trans (by decide : sysModules < mainGlobals) (I.mod.glob.keeps I.bk).lt
  refine wpAny_Dict_empty ⟨.ref s.heap.objs.size, upd H s.heap.objs.size (.dK []), ?_, rfl, h _ (I.hok.fresh (Nat.le_refl _))⟩
  refine I.laidN (t' := s.toks) (fun _ _ q => Heap.get?_push_of_some _ q) (Heap.get?_none_of_le (Nat.le_refl _)) ⟨Nat.zero_le _, ?_, [], .nil, Heap.DictOf.new _⟩
  rw [beq_eq_false_iff_ne]
  exact Nat.ne_of_gt hs
end L2
namespace K19
open PySem L2
abbrev sWrong : Stmt := top 64
section
variable {P : Program} {w : World} {K : PySem.W.Frag} {mg : Str → Option Value} {base : Heap}
/-- no number of houses, no pair -/
structure Th (K : PySem.W.Frag) (H : Hp) (x : V) : Prop where
  wh : ∃ o, Wh K H x o ∧ ∀ lo hi : Int, 0 ≤ lo → hi ≤ 32 → within o lo hi = false
  rw' : ∃ r, Rw K H x r ∧ isRow r 2 = false
theorem Th.same {H H' : Hp} {x : V} (e : Same H H') (h : Th K H x) : Th K H' x := by
  obtain ⟨⟨o, a, b⟩, ⟨r, c, d⟩⟩ := h
  exact ⟨⟨o, Wh.same e a, b⟩, ⟨r, Rw.same e c, d⟩⟩
theorem th_no {H : Hp} {x : V} {t : Value} (ty : TyX K H x t) (h : PySem.W.kitOne K t (.type "int") = some false ∨ (PySem.W.kitOne K t (.type "int") = some true ∧ PySem.W.kitOne K t (.type "bool") = some true)) (h2 : PySem.W.kitOne K t (.type "tuple") = some false) : Th K H x :=
  ⟨⟨none, .no ⟨t, ty, h⟩, fun _ _ _ _ => rfl⟩, ⟨none, .no ty h2, rfl⟩⟩
theorem th_int {H : Hp} {i : Int} (h : i < 0 ∨ 32 < i) : Th K H (.int i) := by
  refine ⟨⟨some i, .int i, fun lo hi h1 h2 => ?_⟩, ⟨none, .no (.of (.int i)) (by kernel_rfl), rfl⟩⟩
  unfold within
  simp only [Bool.and_eq_false_iff, decide_eq_false_iff_not]
  omega
theorem th_tup {H : Hp} {p : Addr} {x : V} (h : H p = some (.tup [x])) : Th K H (.ref p) :=
  ⟨⟨none, .no ⟨.type "tuple", .of (.tup h), .inl (by kernel_rfl)⟩, fun _ _ _ _ => rfl⟩, ⟨_, .tup h, rfl⟩⟩
theorem scWrong : FnScope ["_law_pot_here", "_law_deed", "_law_net", "_law_thing"] ["_law_pot_here", "_law_deed", "_law_net"] (defScope sWrong) := ⟨rfl, rfl, rfl, by decide +kernel, rfl, by decide +kernel, by decide +kernel⟩
def due (i : Nat) : Nat := [0, 0, 1, 1, 1, 2, 3, 4].getD i 0
def spWrong (K : PySem.W.Frag) (C : Addr) (c : Nat → Addr) : Sp := fun vs H _ E => ∃ (p pn : Addr) (i n : Nat), vs = [.ref p, .int i, .ref pn] ∧ i < 8 ∧ PotAt H p ∧ NetAt K C H pn n ∧ n ≤ 32 ∧ ∀ H', SameE p H H' → PotAt H' p → E (.ref (c (due i))) none H'
theorem NetAt.mono {H H' : Hp} {C p : Addr} {n : Nat} (h : NetAt K C H p n) (e : ∀ b o, H b = some o → (∀ a b', o ≠ .lst [.int a, .int b']) → H' b = some o) : NetAt K C H' p n := by
  obtain ⟨⟨dx, tl, ol, ds, h1, as, h2, h3, h4⟩⟩ := h
  refine ⟨⟨dx, tl, ol, ds, e _ _ h1 (by intro a b z; cases z), as, e _ _ h2 ?_, h3, fun i hi => e _ _ (h4 i hi) (by intro a b z; cases z)⟩⟩
  intro a b z
  have z' := HO.lst.inj z
  cases as with
  | nil => cases z'
  | cons x r => cases z'
theorem NetAt.sameE {H H' : Hp} {C p q : Addr} {n : Nat} (h : NetAt K C H p n) (hq : PotAt H q) (e : SameE q H H') : NetAt K C H' p n := by
  obtain ⟨a, b, eq, _⟩ := hq
  refine h.mono fun b' o e' hn => e _ _ e' ?_
  rintro rfl
  rw [eq] at e'
  exact hn a b (Option.some.inj e').symm
end
end K19

set_option Elab.async false
set_option linter.all false
set_option maxRecDepth 100000
set_option maxHeartbeats 4000000
namespace K19
open PySem L2
def things (t l d : Addr) : List V := [.non, .bl true, .int (-1), .str "0", .ref t, .ref l, .ref d, .int (10 ^ 50)]
section
variable {P : Program} {w : World} {K : PySem.W.Frag} {mg : Str → Option Value} {base : Heap}
theorem things_th {H : Hp} {t l d : Addr} (ht : H t = some (.tup [.int 0])) (hl : H l = some (.lst [])) (hd : H d = some (.dK [])) : ∀ j, j < 8 → ∃ v, (things t l d)[j]? = some v ∧ Th K H v
  | 0, _ => ⟨_, rfl, th_no (.of .non) (.inl (by kernel_rfl)) (by kernel_rfl)⟩
  | 1, _ => ⟨_, rfl, th_no (.of (.bl _)) (.inr ⟨by kernel_rfl, by kernel_rfl⟩) (by kernel_rfl)⟩
  | 2, _ => ⟨_, rfl, th_int (.inl (by decide))⟩
  | 3, _ => ⟨_, rfl, th_no (.of (.str _)) (.inl (by kernel_rfl)) (by kernel_rfl)⟩
  | 4, _ => ⟨_, rfl, th_tup ht⟩
  | 5, _ => ⟨_, rfl, th_no (.of (.lst hl)) (.inl (by kernel_rfl)) (by kernel_rfl)⟩
  | 6, _ => ⟨_, rfl, th_no (.of (.dK hd)) (.inl (by kernel_rfl)) (by kernel_rfl)⟩
  | 7, _ => ⟨_, rfl, th_int (.inr (by decide))⟩
  | n + 8, h => absurd h (by omega)
theorem nout (n : Int) (tl ol ds : Addr) : (flds n tl ol ds).lookup ("out" : Str) = none := flds_no n tl ol ds (by decide +kernel) (by decide +kernel) (by decide +kernel) (by decide +kernel)
theorem ok_wrong {f C cB Pt fI : Addr} {c : Nat → Addr} {fd fdI : FuncData} (F : Fun K "_law_wrong" "_law_wrong" sWrong f fd) (T : NT K mg C) (D : Cal P w K mg base CX0 1 "_law_digit" ["_law_pot_here", "_law_many"] spDigit)
    (M : Mk K C fI) (bI : Binds K fdI ["self", "many", "ties"] []) (GI : FnOk P w K mg base (CXf P w) 7 fI fdI ["self", "many", "ties"] (spInit K C (c 0) Pt))
    (PN : Cal P w K mg base (CXf P w) 2 "pairs_net" ["many", "pairs"] (spPairs K (c 0))) (RN : Cal P w K mg base (CXf P w) 3 "ring_net" ["many"] (spRef K (c 1) 3 32 fun x => [x])) (WN : Cal P w K mg base (CXf P w) 3 "words_net" ["figures", "base"] (spRef K (c 1) 1 5 fun x => [x, x]))
    (BN : Cal P w K mg base (CXf P w) 2 "box_net" ["sides"] (spLst (c 1))) (WT : Cal P w K mg base (CXf P w) 5 "without" ["net", "one", "other"] (spRefuse K C (c 2) fun x => [x, x])) (RD : Cal P w K mg base (CXf P w) 1 "read_net" ["text"] (spLst (c 3)))
    (MO : MCal P w K mg base (CXf P w) 5 C "out" ["self", "house"] (spRefuse K C (c 4) fun x => [x])) :
    FnOk P w K mg base (CXf P w) 9 f fd ["_law_pot_here", "_law_deed", "_law_net"] (spWrong K C c) := by
  obtain ⟨fM, fdM, mM, bM, GM⟩ := MO.ex
  refine F.okX scWrong (fun vs H Q E h => ?_) (fun cdv A outer s H vs Q E hr h => ?_)
  · obtain ⟨p, pn, i, n, rfl, _⟩ := h
    rfl
  · obtain ⟨p, pn, i, n, rfl, hi, hp, N, n2, k⟩ := h
    have h1 : Room 1 _ := hr.mono (by decide)
    have h2 : Room 2 _ := hr.mono (by decide)
    have h3 : Room 3 _ := hr.mono (by decide)
    have h5 : Room 5 _ := hr.mono (by decide)
    refine ⟨_, pss_cons (ps_set (i := 3) scWrong.nd rfl (Or.inl rfl) (pe_ix ix_list (pe_lst (pa_cons pe_non (pa_cons pe_bl (pa_cons (pe_un un_neg pe_int) (pa_cons pe_str (pa_cons (pe_tup (pa_cons pe_int pa_nil)) (pa_cons (pe_lst pa_nil) (pa_cons pe_dct (pa_cons (pe_op op_pow pe_int pe_int) pa_nil)))))))))
        (pe_cal D h1 pass0 (pa_cons (pv 0) (pa_cons pe_int pa_nil))) (fun _ _ => rfl)))
      (pss_cons (ps_if (pt_cmpR op_eq (pv 1) pe_int (nomark _)) (pss_one (ps_ret (pe_make M GI hr rfl T.mgC bI .nil (passX (E' := E) fun _ _ _ z => z) (pa_cons (pv 3) (pa_cons (pv 3) pa_nil))))) pss_nil)
      (pss_cons (ps_if (pt_cmpR op_eq (pv 1) pe_int (nomark _)) (pss_one (ps_ret (pe_cal PN h2 (passX (E' := E) fun _ _ _ z => z) (pa_cons (pv 3) (pa_cons (pe_lst (pa_cons (pv 3) pa_nil)) pa_nil))))) pss_nil)
      (pss_cons (ps_if (pt_cmpR op_eq (pv 1) pe_int (nomark _)) (pss_one (ps_ret (pe_cal RN h3 (passX (E' := E) fun _ _ _ z => z) (pa_cons (pv 3) pa_nil)))) pss_nil)
      (pss_cons (ps_if (pt_cmpR op_eq (pv 1) pe_int (nomark _)) (pss_one (ps_ret (pe_cal WN h3 (passX (E' := E) fun _ _ _ z => z) (pa_cons (pv 3) (pa_cons (pv 3) pa_nil))))) pss_nil)
      (pss_cons (ps_if (pt_cmpR op_eq (pv 1) pe_int (nomark _)) (pss_one (ps_ret (pe_cal BN h2 (passX (E' := E) fun _ _ _ z => z) (pa_cons (pe_lst (pa_cons (pv 3) pa_nil)) pa_nil)))) pss_nil)
      (pss_cons (ps_if (pt_cmpR op_eq (pv 1) pe_int (nomark _)) (pss_one (ps_ret (pe_cal WT h5 (passX (E' := E) fun _ _ _ z => z) (pa_cons (pv 2) (pa_cons (pv 3) (pa_cons (pv 3) pa_nil)))))) pss_nil)
      (pss_cons (ps_if (pt_cmpR op_eq (pv 1) pe_int (nomark _)) (pss_one (ps_ret (pe_cal RD h1 (passX (E' := E) fun _ _ _ z => z) (pa_cons (pe_lst (pa_cons (pv 3) pa_nil)) pa_nil)))) pss_nil)
      (pss_one (ps_ret (pe_lst (pa_cons (pe_meth (pv 2) T.cl mM GM h5 bM .nil (passX (E' := E) fun _ _ _ z => z) (pa_cons (pv 3) pa_nil)) pa_never))))))))))), ?_⟩
    refine ⟨_, rfl, by show 1 ≤ sizeLine; decide, fun t ht => ⟨by show 0 ≤ sizeLine; decide, fun l hl => fun d hd => ⟨_, _, rfl, rfl, ⟨by decide, by decide, by decide⟩, by show 8 ≤ sizeLine; decide, fun L hL => ?_⟩⟩⟩
    obtain ⟨a0, b0, ep, _⟩ := id hp
    have npt : p ≠ t := ne_of_none ep ht
    have s1 := same_new (o := .tup [.int 0]) ht
    have s2 := same_new (o := .lst []) hl
    have s3 := same_new (o := .dK []) hd
    have s4 := same_new (o := .lst (things t l d)) hL
    have hp4 := (((hp.same s1).same s2).same s3).same s4
    refine ⟨_, rfl, p, 8, rfl, by decide, by decide, hp4, fun g a b g0 g1 a1 b1 b2 => ?_⟩
    have es4 : SameE p H (upd (upd (upd (upd H t (.tup [.int 0])) l (.lst [])) d (.dK [])) L (.lst (things t l d))) := SameE.of (((s1.trans s2).trans s3).trans s4)
    have es5 := es4.trans (SameE.upd (o := .lst [.int a, .int b]))
    have hp5 : PotAt (upd (upd (upd (upd (upd H t (.tup [.int 0])) l (.lst [])) d (.dK [])) L (.lst (things t l d))) p (.lst [.int a, .int b])) p := PotAt.upd a1 b1 b2
    have e1 : (upd H t (.tup [.int 0])) p = some (.lst [.int a0, .int b0]) := s1 _ _ ep
    have e2 := s2 _ _ e1
    have e3 := s3 _ _ e2
    have gt : (upd (upd (upd (upd (upd H t (.tup [.int 0])) l (.lst [])) d (.dK [])) L (.lst (things t l d))) p (.lst [.int a, .int b])) t = some (.tup [.int 0]) := by rw [upd_ne npt.symm]; exact s4 _ _ (s3 _ _ (s2 _ _ upd_same))
    have gl : (upd (upd (upd (upd (upd H t (.tup [.int 0])) l (.lst [])) d (.dK [])) L (.lst (things t l d))) p (.lst [.int a, .int b])) l = some (.lst []) := by rw [upd_ne (ne_of_none e1 hl).symm]; exact s4 _ _ (s3 _ _ upd_same)
    have gd : (upd (upd (upd (upd (upd H t (.tup [.int 0])) l (.lst [])) d (.dK [])) L (.lst (things t l d))) p (.lst [.int a, .int b])) d = some (.dK []) := by rw [upd_ne (ne_of_none e2 hd).symm]; exact s4 _ _ upd_same
    have gL : (upd (upd (upd (upd (upd H t (.tup [.int 0])) l (.lst [])) d (.dK [])) L (.lst (things t l d))) p (.lst [.int a, .int b])) L = some (.lst (things t l d)) := by rw [upd_ne (ne_of_none e3 hL).symm]; exact upd_same
    obtain ⟨v, hv, th⟩ := things_th (K := K) gt gl gd g.toNat (by omega)
    have hat : atI (things t l d) g = some v := by
      have := atI_nat hv
      rw [Int.toNat_of_nonneg g0] at this
      exact this
    have N5 := N.sameE hp es5
    refine ⟨L, _, _, _, rfl, rfl, SqL.of gL, hat, ?_⟩
    obtain ⟨⟨o, wh, hw⟩, ⟨r, rw', hrw⟩⟩ := id th
    match i, hi with
    | 0, _ =>
      refine ⟨_, rfl, rfl, _, rfl, iteT ?_⟩
      refine ⟨_, rfl, _, rfl, fun x dx nx ndx nex => .inl ⟨x, v, o, v, rfl, ?_, hw 2 32 (by decide) (by decide), ?_⟩⟩
      · exact Wh.same ((same_new ndx).trans (same_new (by rw [upd_ne nex.symm]; exact nx))) wh
      · have sN := (same_new (o := .own x) ndx).trans (same_new (D := x) (o := .ins C dx []) (by rw [upd_ne nex.symm]; exact nx))
        exact k _ (es5.trans (SameE.of sN)) (hp5.same sN)
    | 1, _ =>
      refine ⟨_, rfl, rfl, _, rfl, iteF ⟨_, rfl, rfl, _, rfl, iteT ?_⟩⟩
      refine ⟨_, rfl, _, rfl, by show 1 ≤ sizeLine; decide, fun l2 hl2 => ⟨v, l2, v, r, rfl, upd_same, Rw.same (same_new hl2) rw', hrw, fun H' sH => ?_⟩⟩
      exact k _ (es5.trans (SameE.of ((same_new hl2).trans sH))) (hp5.same ((same_new hl2).trans sH))
    | 2, _ =>
      refine ⟨_, rfl, rfl, _, rfl, iteF ⟨_, rfl, rfl, _, rfl, iteF ⟨_, rfl, rfl, _, rfl, iteT ?_⟩⟩⟩
      exact ⟨_, rfl, v, o, rfl, wh, hw 3 32 (by decide) (by decide), k _ es5 hp5⟩
    | 3, _ =>
      refine ⟨_, rfl, rfl, _, rfl, iteF ⟨_, rfl, rfl, _, rfl, iteF ⟨_, rfl, rfl, _, rfl, iteF ⟨_, rfl, rfl, _, rfl, iteT ?_⟩⟩⟩⟩
      exact ⟨_, rfl, _, rfl, v, o, rfl, wh, hw 1 5 (by decide) (by decide), k _ es5 hp5⟩
    | 4, _ =>
      refine ⟨_, rfl, rfl, _, rfl, iteF ⟨_, rfl, rfl, _, rfl, iteF ⟨_, rfl, rfl, _, rfl, iteF ⟨_, rfl, rfl, _, rfl, iteF ⟨_, rfl, rfl, _, rfl, iteT ?_⟩⟩⟩⟩⟩
      exact ⟨_, rfl, by show 1 ≤ sizeLine; decide, fun l2 hl2 => ⟨l2, _, rfl, upd_same, k _ (es5.trans (SameE.of (same_new hl2))) (hp5.same (same_new hl2))⟩⟩
    | 5, _ =>
      refine ⟨_, rfl, rfl, _, rfl, iteF ⟨_, rfl, rfl, _, rfl, iteF ⟨_, rfl, rfl, _, rfl, iteF ⟨_, rfl, rfl, _, rfl, iteF ⟨_, rfl, rfl, _, rfl, iteF ⟨_, rfl, rfl, _, rfl, iteT ?_⟩⟩⟩⟩⟩⟩
      exact ⟨_, rfl, _, rfl, _, rfl, pn, n, v, o, rfl, N5, wh, hw _ _ (by decide) (by omega), k _ es5 hp5⟩
    | 6, _ =>
      refine ⟨_, rfl, rfl, _, rfl, iteF ⟨_, rfl, rfl, _, rfl, iteF ⟨_, rfl, rfl, _, rfl, iteF ⟨_, rfl, rfl, _, rfl, iteF ⟨_, rfl, rfl, _, rfl, iteF ⟨_, rfl, rfl, _, rfl, iteF ⟨_, rfl, rfl, _, rfl, iteT ?_⟩⟩⟩⟩⟩⟩⟩
      exact ⟨_, rfl, by show 1 ≤ sizeLine; decide, fun l2 hl2 => ⟨l2, _, rfl, upd_same, k _ (es5.trans (SameE.of (same_new hl2))) (hp5.same (same_new hl2))⟩⟩
    | 7, _ =>
      refine ⟨_, rfl, rfl, _, rfl, iteF ⟨_, rfl, rfl, _, rfl, iteF ⟨_, rfl, rfl, _, rfl, iteF ⟨_, rfl, rfl, _, rfl, iteF ⟨_, rfl, rfl, _, rfl, iteF ⟨_, rfl, rfl, _, rfl, iteF ⟨_, rfl, rfl, _, rfl, iteF ?_⟩⟩⟩⟩⟩⟩⟩
      obtain ⟨⟨dx, tl, ol, ds, hn, _⟩⟩ := id N5
      exact ⟨_, rfl, pn, dx, _, rfl, hn, nout _ _ _ _, _, rfl, pn, n, v, o, rfl, N5, wh, hw _ _ (by decide) (by omega), k _ es5 hp5⟩
end
end K19

set_option Elab.async false
set_option linter.all false
set_option maxRecDepth 100000
set_option maxHeartbeats 4000000
namespace L2
open PySem PySem.Spec PyProof.Rows
/-- try: the wish on what flies is chosen where the state is known -/
def tTryX (K : PySem.W.Frag) (Dc : Addr) (i : Nat) (tb : (St → XK) → TS) (th : TS) : TS := fun D σ H => ∃ E, tTry K Dc i E (tb E) th D σ H
theorem ps_tryX {X : Cx} {body suite : List Stmt} {b₀ : Stmt} {x n : Str} {np hpos pos : Pos} {Dc : Addr} {i : Nat} {tb : (St → XK) → TS} {th : TS} (TD : ECls X.K Dc) (hg : Gl X x) (hm : X.mg x = some (.ref Dc)) (hst : X.stack = X.env :: X.outer) (hfr : X.env.frame = some X.env.locals)
    (hN : X.N.Nodup) (hi : X.N[i]? = some n) (hn : X.env.scope.names.lookup n = some .local)
    (hb : ∀ E pn xe, PassesS (CXf X.prog X.w) (X.trying pn xe) E → PSs (X.trying pn xe) body (tb E)) (hh : ∀ pn p, PSs (X.handling pn p) (b₀ :: suite) th) (hdb : (x == ("__debug__" : Str)) = false := by decide) :
    PS X (.Try body [.ExceptHandler (some (.Name x np)) (some n) (b₀ :: suite) hpos] [] [] pos) (tTryX X.K Dc i tb th) := by
  intro pins s σ H D I h
  obtain ⟨E, h⟩ := h
  exact ps_try (E := E) TD hg hm hst hfr hN hi hn (hb E) hh hdb pins s σ H D I h
end L2
namespace K19
open PySem L2
abbrev sRefd : Stmt := top 65
theorem pe_calS {X : Cx} {CX : CXT} {k : Nat} {x : Str} {ps : List Str} {sp : Sp} {E : St → XK} {e : Expr} {es : List Expr} {t : TA} {p pos : Pos} (C : Cal X.prog X.w X.K X.mg X.base CX k x ps sp) (hr : Room k X.A) (hx : PassesS CX X E) (ha : PA X (e :: es) t) (hg : Gl X x := by rfl)
    (hdb : (x == ("__debug__" : Str)) = false := by decide) (he : starEach (e :: es) X.env = (false, eval e X.env) :: starEach es X.env := by rfl) (hpl : (backTo pos (starEach es X.env)).any (·.1) = false := by rfl) :
    PE X (.Call (.Name x p) (e :: es) [] pos) (tCallS sp [] E t) := by
  obtain ⟨f, fd, a, b, c, d⟩ := C.ex
  exact pe_callS d hr hg a b c .nil hx ha hdb he hpl
theorem pe_calW {X : Cx} {k : Nat} {x : Str} {ps : List Str} {sp : Sp} {E : XK} {e : Expr} {es : List Expr} {t : TA} {p pos : Pos} (C : CalW X.prog X.w X.K X.mg X.base k x ps sp) (hr : RoomW k X.A) (hx : Passes (CXf X.prog X.w) X E) (ha : PA X (e :: es) t) (hg : Gl X x := by rfl)
    (hdb : (x == ("__debug__" : Str)) = false := by decide) (he : starEach (e :: es) X.env = (false, eval e X.env) :: starEach es X.env := by rfl) (hpl : (backTo pos (starEach es X.env)).any (·.1) = false := by rfl) :
    PE X (.Call (.Name x p) (e :: es) [] pos) (tCall sp [] E t) := by
  obtain ⟨f, fd, a, b, c, d⟩ := C.ex
  exact pe_callW d hr hg a b c .nil hx ha hdb he hpl
def dueL : List V := [.int 0, .int 0, .int 1, .int 1, .int 1, .int 2, .int 3, .int 4]
theorem due_get : ∀ i, i < 8 → dueL[i]? = some (.int (due i : Int))
  | 0, _ => rfl | 1, _ => rfl | 2, _ => rfl | 3, _ => rfl | 4, _ => rfl | 5, _ => rfl | 6, _ => rfl | 7, _ => rfl
  | n + 8, h => absurd h (by omega)
theorem due_lt : ∀ i, i < 8 → due i < 12
  | 0, _ => by decide | 1, _ => by decide | 2, _ => by decide | 3, _ => by decide | 4, _ => by decide | 5, _ => by decide | 6, _ => by decide | 7, _ => by decide
  | n + 8, h => absurd h (by omega)
theorem nbKD : (["_law_k", "_law_deed", "_law_due"] : List Str).Nodup := by decide +kernel
section
variable {P : Program} {w : World} {K : PySem.W.Frag} {mg : Str → Option Value} {base : Heap}
theorem comp_due {H : Hp} {D du : Addr} {i : Nat} {fin : Hp → Prop} {a : Option V} (hi : i < 8) (hD : H D = none) (hdu : H du = some (.lst dueL)) (hd : fin (upd H D (.lst (boolsL fun j => decide (due i = j))))) :
    CompW (Itr 0 12) (gName 0) tYes (tOp rEq (tVar 0) (tOp (rIxL K) (tVar 2) (tVar 1))) D fin [a, some (.int i), some (.ref du)] (upd H D (.lst [])) := by
  have nd : du ≠ D := ne_of_none hdu hD
  refine comp_range (n := 12) (lo := 0) (fun k ys σ H2 => (∃ a, σ = [a, some (.int i), some (.ref du)]) ∧ ys = ((List.range k).map fun (j : Nat) => V.bl (decide (due i = j))) ∧ H2 = upd H D (.lst ys)) ⟨⟨_, rfl⟩, rfl, rfl⟩ ?_ ?_
  · rintro k ys σ H2 Kt Kf hk ⟨⟨a', rfl⟩, rfl, rfl⟩ kt kf
    refine ⟨_, rfl, _, rfl, _, rfl, du, _, _, _, rfl, rfl, SqL.of (by rw [upd_ne nd]; exact hdu), atI_nat (due_get i hi), rfl, ?_⟩
    refine kt _ _ _ upd_same (by rw [List.length_map, List.length_range]; exact Nat.lt_of_lt_of_le hk (by decide)) ⟨⟨_, rfl⟩, ?_, by rw [upd_upd]⟩
    rw [List.range_succ, List.map_append]
    have e : decide (V.int (0 + (k : Int)) = V.int (due i : Int)) = decide (due i = k) := by
      rw [Int.zero_add]
      refine decide_eq_decide.mpr ⟨fun z => ?_, fun z => by rw [z]⟩
      have := V.int.inj z
      omega
    rw [e]
    rfl
  · rintro ys σ H2 ⟨_, rfl, rfl⟩
    exact hd
theorem scRefd : FnScope ["_law_pot_here", "_law_net", "_law_due", "_law_deed", "_law_told", "_law_e"] ["_law_pot_here", "_law_net"] (defScope sRefd) := ⟨rfl, rfl, rfl, by decide +kernel, rfl, by decide +kernel, by decide +kernel⟩
def spRefd (K : PySem.W.Frag) (C : Addr) : Sp := fun vs H Q _ => ∃ (p pn : Addr) (n : Nat), vs = [.ref p, .ref pn] ∧ PotAt H p ∧ NetAt K C H pn n ∧ n ≤ 32 ∧ ∀ H', SameE p H H' → PotAt H' p → Q (.bl true) H'
theorem ok_refd {f C cB : Addr} {c : Nat → Addr} {fd : FuncData} (F : Fun K "_law_refused_right" "_law_refused_right" sRefd f fd) (B : Bl mg) (R : Errs K mg cB c) (KI : CalW P w K mg base 1 "_law_kinds" ["_law_e"] (spKinds K c))
    (OR : Cal P w K mg base CX0 2 "_law_order" ["_law_pot_here", "_law_many"] spOrder) (WR : Cal P w K mg base (CXf P w) 9 "_law_wrong" ["_law_pot_here", "_law_deed", "_law_net"] (spWrong K C c)) :
    FnOk P w K mg base CX0 10 f fd ["_law_pot_here", "_law_net"] (spRefd K C) := by
  refine F.ok scRefd (fun vs H Q E h => ?_) (fun cdv A outer s H vs Q E hr h => ?_)
  · obtain ⟨p, pn, n, rfl, _⟩ := h
    rfl
  · obtain ⟨p, pn, n, rfl, hp, N, n2, q⟩ := h
    have h1 : Room 1 _ := hr.mono (by decide)
    have h2 : Room 2 _ := hr.mono (by decide)
    have hu : (A.deeper (PyProof.Rows.envOfC "_law_refused_right" (defScope sRefd) s.heap.objs.size f cdv)).units + 2 < cLine := by have := hr.un; omega
    refine' ⟨_, pss_cons (ps_set (i := 2) scRefd.nd rfl (Or.inr rfl) (pe_lst (pa_cons pe_int (pa_cons pe_int (pa_cons pe_int (pa_cons pe_int (pa_cons pe_int (pa_cons pe_int (pa_cons pe_int (pa_cons pe_int pa_nil))))))))))
      (pss_cons (ps_for PassesOwn.never rfl (pi_list (pe_cal OR h2 pass0 (pa_cons (pv 0) (pa_cons pe_int pa_nil)))) (pg_name (i := 3) scRefd.nd rfl (Or.inr rfl))
        (pss_cons (ps_set (i := 4) scRefd.nd rfl (Or.inl rfl) pe_non)
        (pss_cons (ps_tryX (i := 5) (tb := fun E => tSeq (tDrop (tCallS (spWrong K C c) [] E (tCons (tVar 0) (tCons (tVar 3) (tCons (tVar 1) tNil))))) tNext) R.beat.ok rfl R.beat.at_ rfl rfl scRefd.nd rfl rfl
            (fun E pn' xe hx => pss_cons (ps_expr (pe_calS WR hr hx (pa_cons (pv 0) (pa_cons (pv 3) (pa_cons (pv 1) pa_nil))))) pss_nil)
            ?hh)
        (pss_one (ps_if (pt_cmpR (op_neL (e := eqV) hu) (pv 4) ?c (nomark _)) pss_never pss_nil)))))
      (pss_one (ps_ret pe_bl))), ?_⟩
    case hh => exact fun pn' p' => pss_one (ps_set (i := 4) scRefd.nd rfl (Or.inl rfl) (pe_calW KI ⟨h1.dp, h1.un⟩ passN (pa_cons (pv 5) pa_nil)))
    case c =>
      refine' pe_comp (g := gName 0) (tt := tYes) (te := tOp rEq (tVar 0) (tOp (rIxL K) (tVar 2) (tVar 1))) (NB := ["_law_k", "_law_deed", "_law_due"]) (src := [none, some 3, some 2]) (blk_of (by kernel_rfl)) rfl (pi_range1 rfl B.range (pa_cons pe_int pa_nil)) ?g ?t ?e
      case g => exact fun cl C s₃ H₃ fp => pg_name (i := 0) nbKD rfl (Or.inl rfl) (Or.inr rfl)
      case t => exact fun cl C s₃ H₃ fp => pts_nil
      case e => exact fun cl C s₃ H₃ fp => pe_cmpR op_eq (pv 0) (pe_ix ix_list (pv 2) (pv 1) (fun _ _ => rfl)) (nomark _)
    refine ⟨by show 8 ≤ sizeLine; decide, fun du hdu => ?_⟩
    have s1 := same_new (o := .lst dueL) hdu
    have ndp : du ≠ p := by obtain ⟨a, b, e, _⟩ := hp; exact (ne_of_none e hdu).symm
    refine ⟨_, rfl, p, rfl, hp.same s1, fun ol xs H2 s2 p2 n2' g2 fx lx => ?_⟩
    have gdu : H2 du = some (.lst dueL) := s2 _ _ upd_same ndp
    have nop : ol ≠ p := by
      obtain ⟨a, b, e, _⟩ := hp.same s1
      exact (ne_of_none e n2').symm
    have es2 : SameE p H H2 := (SameE.of s1).trans s2
    have N2 := N.sameE hp es2
    refine ⟨ol, rfl, ⟨_, SqL.of g2⟩, for_list (K := K) (a := ol) (xs := xs) (fun i σ H3 => (∃ d t, σ = [some (.ref p), some (.ref pn), some (.ref du), d, t, none]) ∧ SameE p H2 H3 ∧ PotAt H3 p) ⟨⟨_, _, rfl⟩, SameE.refl, p2⟩ (fun i σ H3 _ ⟨_, sm, _⟩ => SqL.of (sm _ _ g2 nop)) ?_ ?_⟩
    · rintro i x σ H3 hx ⟨⟨d, t, rfl⟩, sm, p3⟩
      obtain ⟨j, rfl, hj⟩ := fx x (List.mem_of_getElem? hx)
      have N3 := N2.sameE p2 sm
      refine ⟨fun σ' C' _ H' => σ' = [some (.ref p), some (.ref pn), some (.ref du), some (.int j), some .non, none] ∧ C' = .ref (c (due j)) ∧ SameE p H3 H' ∧ PotAt H' p, ⟨?_, ?_⟩⟩
      · exact ⟨_, rfl, _, rfl, _, rfl, p, pn, j, n, rfl, hj, p3, N3, n2, fun H' s' p' => ⟨rfl, rfl, s', p'⟩⟩
      · rintro σ' C' H4 ⟨rfl, rfl, s4, p4⟩
        refine ⟨R.sb _ (due_lt j hj), ⟨_, rfl⟩, fun px hpx => ?_⟩
        have s5 := same_new (o := excO px (.ref (c (due j)))) hpx
        refine ⟨_, rfl, px, c (due j), fun k => decide (due j = k), rfl, R.ok _ (due_lt j hj), upd_same, fun k hk => R.kk _ k (due_lt j hj) hk, fun r H6 s6 n6 g6 => ?_⟩
        have sm6 : SameE p H2 H6 := ((sm.trans s4).trans (SameE.of s5)).trans (SameE.of s6)
        refine ⟨_, rfl, 12, rfl, by decide, by decide, fun D hD => comp_due hj hD (sm6 _ _ gdu ndp) ?_⟩
        have s7 := same_new (o := .lst (boolsL fun k => decide (due j = k))) hD
        refine ⟨r, D, _, _, rfl, rfl, SqL.of (s7 _ _ g6), SqL.of upd_same, fun i _ _ => elEq_flat (flat_bools i) (flat_bools i), _, rfl, ?_⟩
        rw [show allEq eqV (boolsL fun k => decide (due j = k)) (boolsL fun k => decide (due j = k)) = true from allEq_bools _]
        exact iteF ⟨⟨_, _, rfl⟩, sm6.trans (SameE.of s7), ((p4.same s5).same s6).same s7⟩
    · rintro σ H3 ⟨⟨d, t, rfl⟩, sm, p3⟩
      exact q H3 (es2.trans sm) p3
end
end K19

set_option Elab.async false
set_option linter.all false
set_option maxRecDepth 100000
set_option maxHeartbeats 8000000
namespace K19
open PySem L2
abbrev sLaw : Stmt := top 67
theorem nbHM : (["_law_house", "_law_many"] : List Str).Nodup := by decide +kernel
section
variable {P : Program} {w : World} {K : PySem.W.Frag} {mg : Str → Option Value} {base : Heap}
/-- the script: known, or one of the module's own -/
def SqF (K : PySem.W.Frag) (H : Hp) (a : Addr) (xs : List V) : Prop := (∃ o, H a = some (.frz o (.lst xs))) ∨ (∀ H' : Hp, SqL K H' a xs)
theorem SqF.seq {H : Hp} {a : Addr} {xs : List V} (h : SqF K H a xs) : SqL K H a xs := by
  rcases h with ⟨o, h⟩ | h
  · exact .inl (.inr ⟨o, h⟩)
  · exact h H
theorem SqF.mono {H H' : Hp} {a : Addr} {xs : List V} (h : SqF K H a xs) (e : ∀ o u, H a = some (.frz o u) → H' a = some (.frz o u)) : SqF K H' a xs := by
  rcases h with ⟨o, h⟩ | h
  · exact .inl ⟨o, e _ _ h⟩
  · exact .inr h
theorem SqF.same {H H' : Hp} {a : Addr} {xs : List V} (h : SqF K H a xs) (e : Same H H') : SqF K H' a xs := h.mono fun o u z => e _ _ z
theorem SqF.sameE {H H' : Hp} {a p : Addr} {xs : List V} (h : SqF K H a xs) (hp : PotAt H p) (e : SameE p H H') : SqF K H' a xs := by
  obtain ⟨x, y, ep, _⟩ := hp
  exact h.mono fun o u z => e _ _ z (ne_of z ep (by intro q; cases q))
theorem Tab.sameE {H H' : Hp} {Pt p : Addr} (t : Tab Pt H) (hp : PotAt H p) (e : SameE p H H') : Tab Pt H' := by
  obtain ⟨x, y, ep, _⟩ := hp
  rcases t with z | ⟨c, z, v⟩
  · exact .inl (e _ _ z (ne_of z ep (by intro q; cases q)))
  · exact .inr ⟨c, e _ _ z (ne_of z ep (by intro q; cases q)), e _ _ v (ne_of v ep (by intro q; cases q))⟩
theorem TiesAt.sameE {H H' : Hp} {l p n : Nat} (h : TiesAt H l n) (n1 : 2 ≤ n) (hp : PotAt H p) (e : SameE p H H') : TiesAt H' l n := by
  obtain ⟨x, y, ep, _⟩ := hp
  obtain ⟨as, a, b, c⟩ := h
  refine ⟨as, e _ _ a ?_, b, fun i hi => e _ _ (c i hi) (ne_of (c i hi) ep (by intro q; cases q))⟩
  rintro rfl
  rw [ep] at a
  have a' := HO.lst.inj (Option.some.inj a)
  cases as with
  | nil => cases a'
  | cons u r => cases a'
theorem scLaw : FnScope ["_law_script", "_law_k", "_law_pot_here", "_law_many", "_law_ties", "_law_net"] ["_law_script"] (defScope sLaw) := ⟨rfl, rfl, rfl, by decide +kernel, rfl, by decide +kernel, by decide +kernel⟩
def spLaw (K : PySem.W.Frag) (Pt : Addr) : Sp := fun vs H Q _ => ∃ (a : Addr) (ns : List Int), vs = [.ref a] ∧ SqF K H a (ns.map V.int) ∧ ns.length ≤ 63 ∧ Tab Pt H ∧ ∀ H', Q (.bl true) H'
theorem nties (n : Int) (tl ol ds : Addr) : (flds n tl ol ds).lookup ("ties" : Str) = none := flds_no n tl ol ds (by decide +kernel) (by decide +kernel) (by decide +kernel) (by decide +kernel)
theorem modN {i n : Nat} : ((0 : Int) + (i : Int) + 1) % (n : Int) = (((i + 1) % n : Nat) : Int) := by
  rw [Int.zero_add]
  exact (Int.natCast_emod (i + 1) n).symm ▸ rfl
theorem allEq_true : ∀ {xs ys : List V}, xs.length = ys.length → allEq (fun _ _ => true) xs ys = true
  | [], [], _ => rfl
  | x :: xs, y :: ys, h => by
    show (true && allEq (fun _ _ => true) xs ys) = true
    rw [allEq_true (by simpa using h)]
    rfl
  | [], _ :: _, h => by simp at h
  | _ :: _, [], h => by simp at h
theorem ok_law {f C Pt fI : Addr} {fd fdI : FuncData} {c0 : Addr} (F : Fun K "law" "law" sLaw f fd) (B : Bl mg) (T : NT K mg C) (PO : Cal P w K mg base CX0 1 "_law_pot" ["_law_script", "_law_k"] (spPot K)) (D : Cal P w K mg base CX0 1 "_law_digit" ["_law_pot_here", "_law_many"] spDigit)
    (M : Mk K C fI) (bI : Binds K fdI ["self", "many", "ties"] []) (GI : FnOk P w K mg base (CXf P w) 7 fI fdI ["self", "many", "ties"] (spInit K C c0 Pt))
    (TX : Cal P w K mg base CX0 2 "_law_text" ["_law_pot_here"] spText) (MR : Cal P w K mg base CX0 2 "_law_made_right" ["_law_text_here"] spMade) (RR : Cal P w K mg base CX0 10 "_law_refused_right" ["_law_pot_here", "_law_net"] (spRefd K C))
    (MT : MCal P w K mg base CX0 1 C "ties" ["self"] (spTies K C)) (MM : MCal P w K mg base CX0 1 C "many" ["self"] (spMany K C)) :
    FnOk P w K mg base CX0 11 f fd ["_law_script"] (spLaw K Pt) := by
  obtain ⟨fT, fdT, mT, bT, GT⟩ := MT.ex
  obtain ⟨fM, fdM, mM, bM, GM⟩ := MM.ex
  refine F.ok scLaw (fun vs H Q E h => ?_) (fun cdv A outer s H vs Q E hr h => ?_)
  · obtain ⟨a, ns, rfl, _⟩ := h
    rfl
  · obtain ⟨a, ns, rfl, hS, hns, tb, q⟩ := h
    have h1 : Room 1 _ := hr.mono (by decide)
    have h2 : Room 2 _ := hr.mono (by decide)
    have h7 : Room 8 _ := hr.mono (by decide)
    have hu : (A.deeper (PyProof.Rows.envOfC "law" (defScope sLaw) s.heap.objs.size f cdv)).units + 2 < cLine := by have := hr.un; omega
    refine' ⟨_, pss_cons (ps_for PassesOwn.never rfl (pi_range1 rfl B.range (pa_cons (pe_callB (call_max2 rfl) (by rfl) B.max PyProof.Rows.boot_max (pa_cons pe_int (pa_cons (pe_callB (call_min2 rfl) (by rfl) B.min PyProof.Rows.boot_min (pa_cons pe_int (pa_cons (pe_callB call_len_seq (by rfl) B.len PySem.boot_len (pa_cons (pv 0) pa_nil)) pa_nil))) pa_nil))) pa_nil)) (pg_name (i := 1) scLaw.nd rfl (Or.inl rfl))
        (pss_cons (ps_set (i := 2) scLaw.nd rfl (Or.inl rfl) (pe_cal PO h1 pass0 (pa_cons (pv 0) (pa_cons (pv 1) pa_nil))))
        (pss_cons (ps_set (i := 3) scLaw.nd rfl (Or.inr rfl) (pe_op op_add pe_int (pe_cal D h1 pass0 (pa_cons (pv 2) (pa_cons pe_int pa_nil)))))
        (pss_cons (ps_setComp (i := 4) (g := gName 0) (te := tTup (tCons (tVar 0) (tCons (tOp (rI (fun _ j => 0 < j) fun i j => .int (i % j)) (tOp (rI0 fun i j => .int (i + j)) (tVar 0) (tC (.int 1))) (tVar 1)) tNil))) (NB := ["_law_house", "_law_many"]) (src := [none, some 3]) (blk_of (by kernel_rfl)) rfl (pi_range1 rfl B.range (pa_cons (pv 3) pa_nil)) ?g ?t ?e scLaw.nd rfl rfl rfl)
        (pss_cons (ps_set (i := 5) scLaw.nd rfl (Or.inl rfl) (pe_make M GI h7 rfl T.mgC bI .nil passN (pa_cons (pv 3) (pa_cons (pv 4) pa_nil))))
        (pss_cons (ps_if (PW.pt (pw_or (pt_not (pt_val (pe_cal MR h2 pass0 (pa_cons (pe_cal TX h2 pass0 (pa_cons (pv 2) pa_nil)) pa_nil)))) (pw_or1 (pt_not (pt_val (pe_cal RR hr pass0 (pa_cons (pv 2) (pa_cons (pv 5) pa_nil)))))))) pss_never pss_nil)
        (pss_one (ps_if (PW.pt (pw_or (pt_cmpR (op_neL (e := fun _ _ => true) hu) (pe_meth0 (pv 5) T.cl mT GT h1 bT .nil pass0) (pe_callB call_sortP (by rfl) B.sorted PyProof.Rows.boot_sorted (pa_cons (pv 4) pa_nil)) (nomark _))
          (pw_or1 (pt_cmpR op_ne (pe_meth0 (pv 5) T.cl mM GM h1 bM .nil pass0) (pv 3) (nomark _))))) pss_never pss_nil))))))))
      (pss_one (ps_ret pe_bl)), ?_⟩
    case g => exact fun cl C s₃ H₃ fp => pg_name (i := 0) nbHM rfl (Or.inl rfl) (Or.inr rfl)
    case t => exact fun cl C s₃ H₃ fp => pts_nil
    case e => exact fun cl C s₃ H₃ fp => pe_tup (pa_cons (pv 0) (pa_cons (pe_op op_mod (pe_op op_add (pv 0) pe_int) (pv 1)) pa_nil))
    refine ⟨_, rfl, a, _, rfl, .inl hS.seq, 6, _, rfl, 1, _, rfl, _, rfl, ?_⟩
    obtain ⟨j, hj, j1⟩ : ∃ j : Int, (if (if (((ns.map V.int).length : Nat) : Int) < 6 then (((ns.map V.int).length : Nat) : Int) else 6) > 1 then (if (((ns.map V.int).length : Nat) : Int) < 6 then (((ns.map V.int).length : Nat) : Int) else 6) else 1) = j ∧ 1 ≤ j ∧ j ≤ 6 := ⟨_, rfl, by split <;> split <;> omega⟩
    rw [hj]
    refine ⟨by omega, by omega, for_range (n := j.toNat) (lo := 0) (fun k σ H2 => (∃ x y z u v, σ = [some (.ref a), x, y, z, u, v]) ∧ SqF K H2 a (ns.map V.int) ∧ Tab Pt H2) ⟨⟨_, _, _, _, _, rfl⟩, hS, tb⟩ ?_ fun σ H2 _ => q H2⟩
    rintro k σ H2 hk ⟨⟨x, y, z, u, v, rfl⟩, S2, t2⟩
    -- the pot
    refine ⟨_, rfl, _, rfl, a, ns, k, by rw [Int.zero_add]; rfl, S2.seq, by omega, fun p H3 s3 np p3 => ?_⟩
    have S3 := S2.same s3
    have t3 := t2.same s3
    refine ⟨_, rfl, p, 31, rfl, by decide, by decide, p3, fun d da db d0 d1 a0 b0 b1 => ?_⟩
    have p4 : PotAt (upd H3 p (.lst [.int da, .int db])) p := PotAt.upd a0 b0 b1
    have S4 := S3.sameE p3 (SameE.upd (o := .lst [.int da, .int db]))
    have t4 := t3.sameE p3 (SameE.upd (o := .lst [.int da, .int db]))
    generalize upd H3 p (.lst [.int da, .int db]) = H4 at *
    obtain ⟨n, hn, n1, n2⟩ : ∃ n : Nat, 2 + d = (n : Int) ∧ 2 ≤ n ∧ n ≤ 32 := ⟨(2 + d).toNat, by omega, by omega, by omega⟩
    refine ⟨_, _, rfl, rfl, ?_⟩
    change gName 3 (V.int (2 + d)) _ H4 _
    rw [hn]
    -- the ties
    refine ⟨_, rfl, n, rfl, by omega, by omega, fun l hl => ?_⟩
    refine comp_range (n := n) (lo := 0) (fun i ys σ H5 => (∃ a, σ = [a, some (.int n)]) ∧ ∃ as, ys = as.map V.ref ∧ Holds H5 as i (fun j => .tup [.int (tie n j).1, .int (tie n j).2]) ∧ Same H4 H5 ∧ H5 l = some (.lst ys))
      ⟨⟨_, rfl⟩, [], rfl, Holds.nil, same_new hl, upd_same⟩ ?_ ?_
    · rintro i ys σ H5 Kt Kf hi ⟨⟨a', rfl⟩, as, rfl, hh, sm, hl5⟩ kt kf
      refine ⟨_, rfl, _, rfl, _, _, rfl, rfl, _, rfl, _, _, rfl, rfl, (by show (0 : Int) < (n : Int); omega), by show 2 ≤ sizeLine; decide, fun t ht => ?_⟩
      have nlt : l ≠ t := ne_of_none hl5 ht
      have e2 : HO.tup [V.int (0 + (i : Int)), V.int ((0 + (i : Int) + 1) % (n : Int))] = HO.tup [.int (tie n i).1, .int (tie n i).2] := by rw [tie_eq hi, modN, Int.zero_add]
      refine kt _ _ _ (by rw [upd_ne nlt]; exact hl5) (by rw [List.length_map, hh.1]; exact Nat.lt_of_lt_of_le hi (Nat.le_trans n2 (by decide))) ⟨⟨_, rfl⟩, as ++ [t], by rw [List.map_append]; rfl, ?_, ?_, upd_same⟩
      · refine Holds.snoc (hh.mono fun j hj e => ?_) (by rw [upd_ne nlt.symm, upd_same]; exact congrArg some e2)
        rw [upd_ne (ne_of e hl5 (by intro z; cases z)), upd_ne (ne_of_none e ht)]; exact e
      · intro b o e
        rw [upd_ne (ne_of_none e hl), upd_ne (ne_of_none (sm _ _ e) ht)]; exact sm _ _ e
    · rintro ys σ H5 ⟨_, as, rfl, hh, sm5, hl5⟩
      have TT5 : TiesAt H5 l n := ⟨as, hl5, hh.1, hh.2⟩
      have S5 := S4.same sm5
      have t5 := t4.same sm5
      have p5 := p4.same sm5
      -- the net
      refine ⟨_, rfl, _, rfl, fun px dx nx ndx nex => .inr ⟨px, dx, n, l, rfl, upd_same, n1, n2, ?_, ?_, fun H6 N6 t6 s6 => ⟨rfl, ?_⟩⟩⟩
      · exact TT5.same ((same_new ndx).trans (same_new (by rw [upd_ne nex.symm]; exact nx)))
      · exact t5.same ((same_new ndx).trans (same_new (by rw [upd_ne nex.symm]; exact nx)))
      · have sN := (same_new (o := .own px) ndx).trans (same_new (D := px) (o := .ins C dx []) (by rw [upd_ne nex.symm]; exact nx))
        have t5' := t5.same sN
        have up6 : ∀ b o, H5 b = some o → b ≠ Pt → H6 b = some o := fun b o e h => s6 _ _ (sN _ _ e) (ne_of_none e nx) h
        have S6 : SqF K H6 a (ns.map V.int) := S5.mono fun o u z => up6 _ _ z (t5.not z (by intro ps q; cases q))
        have p6 : PotAt H6 p := by
          obtain ⟨a1, b1', e, r⟩ := p5
          exact ⟨a1, b1', up6 _ _ e (t5.not e (by intro ps q; cases q)), r⟩
        have TT6 : TiesAt H6 l n := by
          obtain ⟨as', e1, e2, e3⟩ := TT5
          exact ⟨as', up6 _ _ e1 (t5.not e1 (by intro ps q; cases q)), e2, fun i hi => up6 _ _ (e3 i hi) (t5.not (e3 i hi) (by intro ps q; cases q))⟩
        -- the text, the errors
        refine ⟨_, rfl, p, rfl, p6, fun zt H7 s7 p7 => ⟨zt, rfl, fun H8 s8 => ⟨_, rfl, iteF ?_⟩⟩⟩
        have N7 := N6.sameE p6 s7
        have N8 := N7.mono fun b o e _ => s8 _ _ e
        have TT8 := (TT6.sameE n1 p6 s7).same s8
        have S8 := (S6.sameE p6 s7).same s8
        have t8 := (t6.sameE p6 s7).same s8
        have p8 := p7.same s8
        -- what is refused
        refine ⟨_, rfl, _, rfl, p, px, n, rfl, p8, N8, n2, fun H9 s9 p9 => ⟨_, rfl, iteF ?_⟩⟩
        have N9 := N8.sameE p8 s9
        have TT9 := TT8.sameE n1 p8 s9
        have S9 := S8.sameE p8 s9
        have t9 := t8.sameE p8 s9
        -- the ties again
        obtain ⟨⟨dx9, tl9, ol9, ds9, hn9, _⟩⟩ := id N9
        obtain ⟨as9, l9, le9, ho9⟩ := id TT9
        refine ⟨_, rfl, px, dx9, _, rfl, hn9, nties _ _ _ _, px, n, rfl, N9, fun l2 as2 hl2 le2 ho2 => ?_⟩
        have s10 := same_new (o := .lst (as2.map V.ref)) hl2
        refine ⟨_, rfl, l, as9, ringTies n, rfl, SqL.of (s10 _ _ l9), by rw [ringTies_len]; exact le9, fun i hi => SqT.of (s10 _ _ (ho9 i (by rw [ringTies_len] at hi; exact hi))), by rw [ringTies_len]; exact n1, by rw [ringTies_len]; omega, fun l3 hl3 => ?_⟩
        have s11 := same_new (o := .lst ((sortIx (ringTies n)).map fun i => V.ref (as9.getD i 0))) hl3
        obtain ⟨sl, so⟩ := sort_pairs (R := TupAt H9) (as := as9) (ys := ringTies n) (by rw [ringTies_len]; exact n1) (fun i hi => ho9 i (by rw [ringTies_len] at hi; exact hi))
        rw [ringTies_len] at sl so
        have e3 : ((sortIx (ringTies n)).map fun i => V.ref (as9.getD i 0)) = ((sortIx (ringTies n)).map fun i => as9.getD i 0).map V.ref := by rw [List.map_map]; rfl
        refine ⟨l2, l3, _, _, rfl, rfl, SqL.of (s11 _ _ upd_same), SqL.of upd_same, fun i hi1 hi2 => ?_, _, rfl, ?_⟩
        · rw [List.length_map, le2] at hi1
          have g1 : (as2.map V.ref).getD i .non = .ref (as2.getD i 0) := by
            rw [List.getD_eq_getElem?_getD, List.getElem?_map, List.getD_eq_getElem?_getD, List.getElem?_eq_getElem (by omega)]; rfl
          have g2 : ((sortIx (ringTies n)).map fun i => V.ref (as9.getD i 0)).getD i .non = .ref (((sortIx (ringTies n)).map fun i => as9.getD i 0).getD i 0) := by
            rw [e3, List.getD_eq_getElem?_getD, List.getElem?_map, List.getD_eq_getElem?_getD, List.getElem?_eq_getElem (by omega)]; rfl
          rw [g1, g2]
          exact elEq_pair (SqT.of (s11 _ _ (s10 _ _ (ho2 i hi1)))) (SqT.of (s11 _ _ (s10 _ _ (so i hi1)))) (by simp)
        · rw [allEq_true (by rw [List.length_map, le2, e3, List.length_map, sl])]
          refine iteF ?_
          refine ⟨_, rfl, px, dx9, _, rfl, s11 _ _ (s10 _ _ hn9), nmany _ _ _ _, px, n, rfl, N9.mono (fun b o e _ => s11 _ _ (s10 _ _ e)), _, rfl, rfl, _, rfl, ?_⟩
          rw [show (!decide (V.int (n : Int) = V.int (n : Int))) = false by simp]
          exact iteF ⟨⟨_, _, _, _, _, rfl⟩, (S9.same s10).same s11, (t9.same s10).same s11⟩
end
end K19

set_option Elab.async false
set_option linter.all false
set_option maxRecDepth 100000
set_option maxHeartbeats 4000000
namespace K19
open PySem L2
def kOk (o : Option Bool) (b : Bool) : Bool := match o with
  | some x => x == b
  | none => false
theorem kOk_eq {o : Option Bool} {b : Bool} (h : kOk o b = true) : o = some b := by
  unfold kOk at h
  split at h
  · rw [beq_iff_eq] at h; rw [h]
  · cases h
def ekChk (K : PySem.W.Frag) (cB : Addr) (cs : List Addr) : Bool :=
  ((List.range 12).all fun i => (List.range 12).all fun j => kOk (PySem.W.kitOne K (.ref (cs.getD i 0)) (.ref (cs.getD j 0))) (decide (i = j))) &&
  ((List.range 12).all fun j => kOk (PySem.W.kitOne K (.ref cB) (.ref (cs.getD j 0))) false) &&
  ((List.range 12).all fun i => kOk (PySem.W.kitOne K (.ref (cs.getD i 0)) (.type "ValueError")) true) &&
  kOk (PySem.W.kitOne K (.ref cB) (.type "ValueError")) true &&
  ((List.range 12).all fun i => kOk (PySem.W.subIn K (.ref (cs.getD i 0)) (.ref cB)) true)

theorem all_mk {l : PySem.W.OpenLaw} {w : World} {K : PySem.W.Frag} {h : Heap} {mg : Str → Option Value} {fa : Addr} (X : K.In h) (G : h.Ns mainGlobals mg) (hfa : mg "law" = some (.ref fa))
    {C cB Pt cO : Addr}
    {c0 c1 c2 c3 c4 c5 c6 c7 c8 c9 c10 c11 : Addr}
    {f_whole f_within f_house f_row f_cties f_unl f_tie f_bal f_outs f_dist f_reach f_box f_ring f_words f_pairs f_without f_tied f_sides f_read f_pot f_digit f_text f_kinds f_bare f_worded f_made f_wrong f_refd f_order f_law f_m_init f_m_many f_m_ties f_m_out f_m_check : Addr}
    {od_whole an_whole od_within an_within od_house an_house od_row an_row od_cties an_cties od_unl an_unl od_tie an_tie od_bal an_bal od_outs an_outs od_dist an_dist od_reach an_reach od_box an_box od_ring an_ring od_words an_words od_pairs an_pairs od_without an_without od_tied an_tied od_sides an_sides od_read an_read od_pot an_pot od_digit an_digit od_text an_text od_kinds an_kinds od_bare an_bare od_worded an_worded od_made an_made od_wrong an_wrong od_refd an_refd od_order an_order od_law an_law od_m_init an_m_init od_m_many an_m_many od_m_ties an_m_ties od_m_out an_m_out od_m_check an_m_check : Option Addr}
    {sl_whole sl_within sl_house sl_row sl_cties sl_unl sl_tie sl_bal sl_outs sl_dist sl_reach sl_box sl_ring sl_words sl_pairs sl_without sl_tied sl_sides sl_read sl_pot sl_digit sl_text sl_kinds sl_bare sl_worded sl_made sl_wrong sl_refd sl_order sl_law sl_m_init sl_m_many sl_m_ties sl_m_out sl_m_check : Array (Option Value)}
    {oc_whole kV_whole dc_whole pm_whole ct_whole cd_whole oc_within kV_within dc_within pm_within ct_within cd_within oc_house kV_house dc_house pm_house ct_house cd_house oc_row kV_row dc_row pm_row ct_row cd_row oc_cties kV_cties dc_cties pm_cties ct_cties cd_cties oc_unl kV_unl dc_unl pm_unl ct_unl cd_unl oc_tie kV_tie dc_tie pm_tie ct_tie cd_tie oc_bal kV_bal dc_bal pm_bal ct_bal cd_bal oc_outs kV_outs dc_outs pm_outs ct_outs oc_dist kV_dist dc_dist pm_dist ct_dist cd_dist oc_reach kV_reach dc_reach pm_reach ct_reach cd_reach oc_box kV_box dc_box pm_box ct_box cd_box oc_ring kV_ring dc_ring pm_ring ct_ring cd_ring oc_words kV_words dc_words pm_words ct_words cd_words oc_pairs kV_pairs dc_pairs pm_pairs ct_pairs cd_pairs oc_without kV_without dc_without pm_without ct_without cd_without oc_tied kV_tied dc_tied pm_tied ct_tied cd_tied oc_sides kV_sides dc_sides pm_sides ct_sides cd_sides oc_read kV_read dc_read pm_read ct_read cd_read oc_pot kV_pot dc_pot pm_pot ct_pot cd_pot oc_digit kV_digit dc_digit pm_digit ct_digit cd_digit oc_text kV_text dc_text pm_text ct_text cd_text oc_kinds kV_kinds dc_kinds pm_kinds ct_kinds cd_kinds oc_bare kV_bare dc_bare pm_bare ct_bare cd_bare oc_worded kV_worded dc_worded pm_worded ct_worded cd_worded oc_made kV_made dc_made pm_made ct_made cd_made oc_wrong kV_wrong dc_wrong pm_wrong ct_wrong cd_wrong oc_refd kV_refd dc_refd pm_refd ct_refd cd_refd oc_order kV_order dc_order pm_order ct_order cd_order oc_law kV_law dc_law pm_law ct_law cd_law oc_m_init kV_m_init dc_m_init pm_m_init ct_m_init cd_m_init oc_m_many kV_m_many dc_m_many pm_m_many ct_m_many cd_m_many oc_m_ties kV_m_ties dc_m_ties pm_m_ties ct_m_ties cd_m_ties oc_m_out kV_m_out dc_m_out pm_m_out ct_m_out cd_m_out oc_m_check kV_m_check dc_m_check pm_m_check ct_m_check cd_m_check : Value}
    {t_FEWEST_HOUSES t_MOST_HOUSES t_MOST_TIES_OUT t_SMALLEST_RING t_MOST_FIGURES : Tok}
    (aC : PySem.W.nsIn K mainGlobals "Net" = some (some (.ref C)))
    (aB : PySem.W.nsIn K mainGlobals "BeatError" = some (some (.ref cB)))
    (a_NoNet : PySem.W.nsIn K mainGlobals "NoNet" = some (some (.ref c0)))
    (a_NoShape : PySem.W.nsIn K mainGlobals "NoShape" = some (some (.ref c1)))
    (a_NoTie : PySem.W.nsIn K mainGlobals "NoTie" = some (some (.ref c2)))
    (a_NoText : PySem.W.nsIn K mainGlobals "NoText" = some (some (.ref c3)))
    (a_NoHouse : PySem.W.nsIn K mainGlobals "NoHouse" = some (some (.ref c4)))
    (a_NoRanks : PySem.W.nsIn K mainGlobals "NoRanks" = some (some (.ref c5)))
    (a_NoStand : PySem.W.nsIn K mainGlobals "NoStand" = some (some (.ref c6)))
    (a_NoBerth : PySem.W.nsIn K mainGlobals "NoBerth" = some (some (.ref c7)))
    (a_NoHanding : PySem.W.nsIn K mainGlobals "NoHanding" = some (some (.ref c8)))
    (a_NoPlan : PySem.W.nsIn K mainGlobals "NoPlan" = some (some (.ref c9)))
    (a_TooMany : PySem.W.nsIn K mainGlobals "TooMany" = some (some (.ref c10)))
    (a_NoRow : PySem.W.nsIn K mainGlobals "NoRow" = some (some (.ref c11)))
    (a_whole : PySem.W.nsIn K mainGlobals "is_whole" = some (some (.ref f_whole)))
    (l_whole : K.lookup f_whole = some ⟨oc_whole, od_whole, .func (PySem.W.fnOf "is_whole" "is_whole" (defArgs sWhole) (defBody sWhole) (defScope sWhole) .none kV_whole dc_whole pm_whole an_whole cd_whole ct_whole), sl_whole⟩)
    (d_whole : PySem.W.codeIn K cd_whole "is_whole" = true)
    (k_whole : PySem.W.keepIn K (.ref f_whole) = true)
    (a_within : PySem.W.nsIn K mainGlobals "is_whole_within" = some (some (.ref f_within)))
    (l_within : K.lookup f_within = some ⟨oc_within, od_within, .func (PySem.W.fnOf "is_whole_within" "is_whole_within" (defArgs sWithin) (defBody sWithin) (defScope sWithin) .none kV_within dc_within pm_within an_within cd_within ct_within), sl_within⟩)
    (d_within : PySem.W.codeIn K cd_within "is_whole_within" = true)
    (k_within : PySem.W.keepIn K (.ref f_within) = true)
    (a_house : PySem.W.nsIn K mainGlobals "is_house" = some (some (.ref f_house)))
    (l_house : K.lookup f_house = some ⟨oc_house, od_house, .func (PySem.W.fnOf "is_house" "is_house" (defArgs sHouse) (defBody sHouse) (defScope sHouse) .none kV_house dc_house pm_house an_house cd_house ct_house), sl_house⟩)
    (d_house : PySem.W.codeIn K cd_house "is_house" = true)
    (k_house : PySem.W.keepIn K (.ref f_house) = true)
    (a_row : PySem.W.nsIn K mainGlobals "is_row" = some (some (.ref f_row)))
    (l_row : K.lookup f_row = some ⟨oc_row, od_row, .func (PySem.W.fnOf "is_row" "is_row" (defArgs sRow) (defBody sRow) (defScope sRow) .none kV_row dc_row pm_row an_row cd_row ct_row), sl_row⟩)
    (d_row : PySem.W.codeIn K cd_row "is_row" = true)
    (k_row : PySem.W.keepIn K (.ref f_row) = true)
    (a_cties : PySem.W.nsIn K mainGlobals "check_ties" = some (some (.ref f_cties)))
    (l_cties : K.lookup f_cties = some ⟨oc_cties, od_cties, .func (PySem.W.fnOf "check_ties" "check_ties" (defArgs sCTies) (defBody sCTies) (defScope sCTies) .none kV_cties dc_cties pm_cties an_cties cd_cties ct_cties), sl_cties⟩)
    (d_cties : PySem.W.codeIn K cd_cties "check_ties" = true)
    (k_cties : PySem.W.keepIn K (.ref f_cties) = true)
    (a_unl : PySem.W.nsIn K mainGlobals "are_unlike_houses" = some (some (.ref f_unl)))
    (l_unl : K.lookup f_unl = some ⟨oc_unl, od_unl, .func (PySem.W.fnOf "are_unlike_houses" "are_unlike_houses" (defArgs sUnl) (defBody sUnl) (defScope sUnl) .none kV_unl dc_unl pm_unl an_unl cd_unl ct_unl), sl_unl⟩)
    (d_unl : PySem.W.codeIn K cd_unl "are_unlike_houses" = true)
    (k_unl : PySem.W.keepIn K (.ref f_unl) = true)
    (a_tie : PySem.W.nsIn K mainGlobals "is_tie" = some (some (.ref f_tie)))
    (l_tie : K.lookup f_tie = some ⟨oc_tie, od_tie, .func (PySem.W.fnOf "is_tie" "is_tie" (defArgs sTie) (defBody sTie) (defScope sTie) .none kV_tie dc_tie pm_tie an_tie cd_tie ct_tie), sl_tie⟩)
    (d_tie : PySem.W.codeIn K cd_tie "is_tie" = true)
    (k_tie : PySem.W.keepIn K (.ref f_tie) = true)
    (a_bal : PySem.W.nsIn K mainGlobals "check_balance" = some (some (.ref f_bal)))
    (l_bal : K.lookup f_bal = some ⟨oc_bal, od_bal, .func (PySem.W.fnOf "check_balance" "check_balance" (defArgs sBal) (defBody sBal) (defScope sBal) .none kV_bal dc_bal pm_bal an_bal cd_bal ct_bal), sl_bal⟩)
    (d_bal : PySem.W.codeIn K cd_bal "check_balance" = true)
    (k_bal : PySem.W.keepIn K (.ref f_bal) = true)
    (a_outs : PySem.W.nsIn K mainGlobals "houses_out" = some (some (.ref f_outs)))
    (l_outs : K.lookup f_outs = some ⟨oc_outs, od_outs, .func (PySem.W.fnOf "houses_out" "houses_out" (defArgs sOuts) (defBody sOuts) (defScope sOuts) .none kV_outs dc_outs pm_outs an_outs (.ref cO) ct_outs), sl_outs⟩)
    (d_outs : PySem.W.codeIn K (.ref cO) "houses_out" = true)
    (k_outs : PySem.W.keepIn K (.ref f_outs) = true)
    (a_dist : PySem.W.nsIn K mainGlobals "distances_from" = some (some (.ref f_dist)))
    (l_dist : K.lookup f_dist = some ⟨oc_dist, od_dist, .func (PySem.W.fnOf "distances_from" "distances_from" (defArgs sDist) (defBody sDist) (defScope sDist) .none kV_dist dc_dist pm_dist an_dist cd_dist ct_dist), sl_dist⟩)
    (d_dist : PySem.W.codeIn K cd_dist "distances_from" = true)
    (k_dist : PySem.W.keepIn K (.ref f_dist) = true)
    (a_reach : PySem.W.nsIn K mainGlobals "check_reached" = some (some (.ref f_reach)))
    (l_reach : K.lookup f_reach = some ⟨oc_reach, od_reach, .func (PySem.W.fnOf "check_reached" "check_reached" (defArgs sReach) (defBody sReach) (defScope sReach) .none kV_reach dc_reach pm_reach an_reach cd_reach ct_reach), sl_reach⟩)
    (d_reach : PySem.W.codeIn K cd_reach "check_reached" = true)
    (k_reach : PySem.W.keepIn K (.ref f_reach) = true)
    (a_box : PySem.W.nsIn K mainGlobals "box_net" = some (some (.ref f_box)))
    (l_box : K.lookup f_box = some ⟨oc_box, od_box, .func (PySem.W.fnOf "box_net" "box_net" (defArgs sBox) (defBody sBox) (defScope sBox) .none kV_box dc_box pm_box an_box cd_box ct_box), sl_box⟩)
    (d_box : PySem.W.codeIn K cd_box "box_net" = true)
    (k_box : PySem.W.keepIn K (.ref f_box) = true)
    (a_ring : PySem.W.nsIn K mainGlobals "ring_net" = some (some (.ref f_ring)))
    (l_ring : K.lookup f_ring = some ⟨oc_ring, od_ring, .func (PySem.W.fnOf "ring_net" "ring_net" (defArgs sRing) (defBody sRing) (defScope sRing) .none kV_ring dc_ring pm_ring an_ring cd_ring ct_ring), sl_ring⟩)
    (d_ring : PySem.W.codeIn K cd_ring "ring_net" = true)
    (k_ring : PySem.W.keepIn K (.ref f_ring) = true)
    (a_words : PySem.W.nsIn K mainGlobals "words_net" = some (some (.ref f_words)))
    (l_words : K.lookup f_words = some ⟨oc_words, od_words, .func (PySem.W.fnOf "words_net" "words_net" (defArgs sWords) (defBody sWords) (defScope sWords) .none kV_words dc_words pm_words an_words cd_words ct_words), sl_words⟩)
    (d_words : PySem.W.codeIn K cd_words "words_net" = true)
    (k_words : PySem.W.keepIn K (.ref f_words) = true)
    (a_pairs : PySem.W.nsIn K mainGlobals "pairs_net" = some (some (.ref f_pairs)))
    (l_pairs : K.lookup f_pairs = some ⟨oc_pairs, od_pairs, .func (PySem.W.fnOf "pairs_net" "pairs_net" (defArgs sPairs) (defBody sPairs) (defScope sPairs) .none kV_pairs dc_pairs pm_pairs an_pairs cd_pairs ct_pairs), sl_pairs⟩)
    (d_pairs : PySem.W.codeIn K cd_pairs "pairs_net" = true)
    (k_pairs : PySem.W.keepIn K (.ref f_pairs) = true)
    (a_without : PySem.W.nsIn K mainGlobals "without" = some (some (.ref f_without)))
    (l_without : K.lookup f_without = some ⟨oc_without, od_without, .func (PySem.W.fnOf "without" "without" (defArgs sWithout) (defBody sWithout) (defScope sWithout) .none kV_without dc_without pm_without an_without cd_without ct_without), sl_without⟩)
    (d_without : PySem.W.codeIn K cd_without "without" = true)
    (k_without : PySem.W.keepIn K (.ref f_without) = true)
    (a_tied : PySem.W.nsIn K mainGlobals "are_tied" = some (some (.ref f_tied)))
    (l_tied : K.lookup f_tied = some ⟨oc_tied, od_tied, .func (PySem.W.fnOf "are_tied" "are_tied" (defArgs sTied) (defBody sTied) (defScope sTied) .none kV_tied dc_tied pm_tied an_tied cd_tied ct_tied), sl_tied⟩)
    (d_tied : PySem.W.codeIn K cd_tied "are_tied" = true)
    (k_tied : PySem.W.keepIn K (.ref f_tied) = true)
    (a_sides : PySem.W.nsIn K mainGlobals "check_sides" = some (some (.ref f_sides)))
    (l_sides : K.lookup f_sides = some ⟨oc_sides, od_sides, .func (PySem.W.fnOf "check_sides" "check_sides" (defArgs sSides) (defBody sSides) (defScope sSides) .none kV_sides dc_sides pm_sides an_sides cd_sides ct_sides), sl_sides⟩)
    (d_sides : PySem.W.codeIn K cd_sides "check_sides" = true)
    (k_sides : PySem.W.keepIn K (.ref f_sides) = true)
    (a_read : PySem.W.nsIn K mainGlobals "read_net" = some (some (.ref f_read)))
    (l_read : K.lookup f_read = some ⟨oc_read, od_read, .func (PySem.W.fnOf "read_net" "read_net" (defArgs sRead) (defBody sRead) (defScope sRead) .none kV_read dc_read pm_read an_read cd_read ct_read), sl_read⟩)
    (d_read : PySem.W.codeIn K cd_read "read_net" = true)
    (k_read : PySem.W.keepIn K (.ref f_read) = true)
    (a_pot : PySem.W.nsIn K mainGlobals "_law_pot" = some (some (.ref f_pot)))
    (l_pot : K.lookup f_pot = some ⟨oc_pot, od_pot, .func (PySem.W.fnOf "_law_pot" "_law_pot" (defArgs sPot) (defBody sPot) (defScope sPot) .none kV_pot dc_pot pm_pot an_pot cd_pot ct_pot), sl_pot⟩)
    (d_pot : PySem.W.codeIn K cd_pot "_law_pot" = true)
    (k_pot : PySem.W.keepIn K (.ref f_pot) = true)
    (a_digit : PySem.W.nsIn K mainGlobals "_law_digit" = some (some (.ref f_digit)))
    (l_digit : K.lookup f_digit = some ⟨oc_digit, od_digit, .func (PySem.W.fnOf "_law_digit" "_law_digit" (defArgs sDigit) (defBody sDigit) (defScope sDigit) .none kV_digit dc_digit pm_digit an_digit cd_digit ct_digit), sl_digit⟩)
    (d_digit : PySem.W.codeIn K cd_digit "_law_digit" = true)
    (k_digit : PySem.W.keepIn K (.ref f_digit) = true)
    (a_text : PySem.W.nsIn K mainGlobals "_law_text" = some (some (.ref f_text)))
    (l_text : K.lookup f_text = some ⟨oc_text, od_text, .func (PySem.W.fnOf "_law_text" "_law_text" (defArgs sText) (defBody sText) (defScope sText) .none kV_text dc_text pm_text an_text cd_text ct_text), sl_text⟩)
    (d_text : PySem.W.codeIn K cd_text "_law_text" = true)
    (k_text : PySem.W.keepIn K (.ref f_text) = true)
    (a_kinds : PySem.W.nsIn K mainGlobals "_law_kinds" = some (some (.ref f_kinds)))
    (l_kinds : K.lookup f_kinds = some ⟨oc_kinds, od_kinds, .func (PySem.W.fnOf "_law_kinds" "_law_kinds" (defArgs sKinds) (defBody sKinds) (defScope sKinds) .none kV_kinds dc_kinds pm_kinds an_kinds cd_kinds ct_kinds), sl_kinds⟩)
    (d_kinds : PySem.W.codeIn K cd_kinds "_law_kinds" = true)
    (k_kinds : PySem.W.keepIn K (.ref f_kinds) = true)
    (a_bare : PySem.W.nsIn K mainGlobals "_law_bare" = some (some (.ref f_bare)))
    (l_bare : K.lookup f_bare = some ⟨oc_bare, od_bare, .func (PySem.W.fnOf "_law_bare" "_law_bare" (defArgs sBare) (defBody sBare) (defScope sBare) .none kV_bare dc_bare pm_bare an_bare cd_bare ct_bare), sl_bare⟩)
    (d_bare : PySem.W.codeIn K cd_bare "_law_bare" = true)
    (k_bare : PySem.W.keepIn K (.ref f_bare) = true)
    (a_worded : PySem.W.nsIn K mainGlobals "_law_worded" = some (some (.ref f_worded)))
    (l_worded : K.lookup f_worded = some ⟨oc_worded, od_worded, .func (PySem.W.fnOf "_law_worded" "_law_worded" (defArgs sWorded) (defBody sWorded) (defScope sWorded) .none kV_worded dc_worded pm_worded an_worded cd_worded ct_worded), sl_worded⟩)
    (d_worded : PySem.W.codeIn K cd_worded "_law_worded" = true)
    (k_worded : PySem.W.keepIn K (.ref f_worded) = true)
    (a_made : PySem.W.nsIn K mainGlobals "_law_made_right" = some (some (.ref f_made)))
    (l_made : K.lookup f_made = some ⟨oc_made, od_made, .func (PySem.W.fnOf "_law_made_right" "_law_made_right" (defArgs sMade) (defBody sMade) (defScope sMade) .none kV_made dc_made pm_made an_made cd_made ct_made), sl_made⟩)
    (d_made : PySem.W.codeIn K cd_made "_law_made_right" = true)
    (k_made : PySem.W.keepIn K (.ref f_made) = true)
    (a_wrong : PySem.W.nsIn K mainGlobals "_law_wrong" = some (some (.ref f_wrong)))
    (l_wrong : K.lookup f_wrong = some ⟨oc_wrong, od_wrong, .func (PySem.W.fnOf "_law_wrong" "_law_wrong" (defArgs sWrong) (defBody sWrong) (defScope sWrong) .none kV_wrong dc_wrong pm_wrong an_wrong cd_wrong ct_wrong), sl_wrong⟩)
    (d_wrong : PySem.W.codeIn K cd_wrong "_law_wrong" = true)
    (k_wrong : PySem.W.keepIn K (.ref f_wrong) = true)
    (a_refd : PySem.W.nsIn K mainGlobals "_law_refused_right" = some (some (.ref f_refd)))
    (l_refd : K.lookup f_refd = some ⟨oc_refd, od_refd, .func (PySem.W.fnOf "_law_refused_right" "_law_refused_right" (defArgs sRefd) (defBody sRefd) (defScope sRefd) .none kV_refd dc_refd pm_refd an_refd cd_refd ct_refd), sl_refd⟩)
    (d_refd : PySem.W.codeIn K cd_refd "_law_refused_right" = true)
    (k_refd : PySem.W.keepIn K (.ref f_refd) = true)
    (a_order : PySem.W.nsIn K mainGlobals "_law_order" = some (some (.ref f_order)))
    (l_order : K.lookup f_order = some ⟨oc_order, od_order, .func (PySem.W.fnOf "_law_order" "_law_order" (defArgs sOrder) (defBody sOrder) (defScope sOrder) .none kV_order dc_order pm_order an_order cd_order ct_order), sl_order⟩)
    (d_order : PySem.W.codeIn K cd_order "_law_order" = true)
    (k_order : PySem.W.keepIn K (.ref f_order) = true)
    (a_law : PySem.W.nsIn K mainGlobals "law" = some (some (.ref f_law)))
    (l_law : K.lookup f_law = some ⟨oc_law, od_law, .func (PySem.W.fnOf "law" "law" (defArgs sLaw) (defBody sLaw) (defScope sLaw) .none kV_law dc_law pm_law an_law cd_law ct_law), sl_law⟩)
    (d_law : PySem.W.codeIn K cd_law "law" = true)
    (k_law : PySem.W.keepIn K (.ref f_law) = true)
    (a_m_init : PySem.W.findIn K (.ref C) "__init__" = some (some (.ref f_m_init)))
    (i_m_init : PySem.W.isFn K (.ref f_m_init) = true)
    (l_m_init : K.lookup f_m_init = some ⟨oc_m_init, od_m_init, .func (PySem.W.fnOf "__init__" "Net.__init__" (defArgs sInit) (defBody sInit) (defScope sInit) .none kV_m_init dc_m_init pm_m_init an_m_init cd_m_init ct_m_init), sl_m_init⟩)
    (d_m_init : PySem.W.codeIn K cd_m_init "Net.__init__" = true)
    (k_m_init : PySem.W.keepIn K (.ref f_m_init) = true)
    (a_m_many : PySem.W.findIn K (.ref C) "many" = some (some (.ref f_m_many)))
    (i_m_many : PySem.W.isFn K (.ref f_m_many) = true)
    (l_m_many : K.lookup f_m_many = some ⟨oc_m_many, od_m_many, .func (PySem.W.fnOf "many" "Net.many" (defArgs sMany) (defBody sMany) (defScope sMany) .none kV_m_many dc_m_many pm_m_many an_m_many cd_m_many ct_m_many), sl_m_many⟩)
    (d_m_many : PySem.W.codeIn K cd_m_many "Net.many" = true)
    (k_m_many : PySem.W.keepIn K (.ref f_m_many) = true)
    (a_m_ties : PySem.W.findIn K (.ref C) "ties" = some (some (.ref f_m_ties)))
    (i_m_ties : PySem.W.isFn K (.ref f_m_ties) = true)
    (l_m_ties : K.lookup f_m_ties = some ⟨oc_m_ties, od_m_ties, .func (PySem.W.fnOf "ties" "Net.ties" (defArgs sTies) (defBody sTies) (defScope sTies) .none kV_m_ties dc_m_ties pm_m_ties an_m_ties cd_m_ties ct_m_ties), sl_m_ties⟩)
    (d_m_ties : PySem.W.codeIn K cd_m_ties "Net.ties" = true)
    (k_m_ties : PySem.W.keepIn K (.ref f_m_ties) = true)
    (a_m_out : PySem.W.findIn K (.ref C) "out" = some (some (.ref f_m_out)))
    (i_m_out : PySem.W.isFn K (.ref f_m_out) = true)
    (l_m_out : K.lookup f_m_out = some ⟨oc_m_out, od_m_out, .func (PySem.W.fnOf "out" "Net.out" (defArgs sOut) (defBody sOut) (defScope sOut) .none kV_m_out dc_m_out pm_m_out an_m_out cd_m_out ct_m_out), sl_m_out⟩)
    (d_m_out : PySem.W.codeIn K cd_m_out "Net.out" = true)
    (k_m_out : PySem.W.keepIn K (.ref f_m_out) = true)
    (a_m_check : PySem.W.findIn K (.ref C) "check_house" = some (some (.ref f_m_check)))
    (i_m_check : PySem.W.isFn K (.ref f_m_check) = true)
    (l_m_check : K.lookup f_m_check = some ⟨oc_m_check, od_m_check, .func (PySem.W.fnOf "check_house" "Net.check_house" (defArgs sCheck) (defBody sCheck) (defScope sCheck) .none kV_m_check dc_m_check pm_m_check an_m_check cd_m_check ct_m_check), sl_m_check⟩)
    (d_m_check : PySem.W.codeIn K cd_m_check "Net.check_house" = true)
    (k_m_check : PySem.W.keepIn K (.ref f_m_check) = true)
    (pg : PySem.W.plainGet K C Str.empty = true)
    (q_hd : PySem.W.hasDictIn K C = true)
    (po : PySem.W.plainOver K C = true)
    (sa : PySem.W.findIn K (.ref C) "__setattr__" = some (some (.builtin "object.__setattr__")))
    (mk : PySem.W.makesIn K C = true)
    (kc : PySem.W.keepIn K (.ref C) = true)
    (nH : PySem.W.findIn K (.ref C) "house_count" = some none)
    (nT : PySem.W.findIn K (.ref C) "tie_list" = some none)
    (nO : PySem.W.findIn K (.ref C) "out_lists" = some none)
    (nD : PySem.W.findIn K (.ref C) "distances" = some none)
    (z_isinstance : PySem.W.nsIn K mainGlobals "isinstance" = some none)
    (z_int : PySem.W.nsIn K mainGlobals "int" = some none)
    (z_bool : PySem.W.nsIn K mainGlobals "bool" = some none)
    (z_tuple : PySem.W.nsIn K mainGlobals "tuple" = some none)
    (z_list : PySem.W.nsIn K mainGlobals "list" = some none)
    (z_str : PySem.W.nsIn K mainGlobals "str" = some none)
    (z_set : PySem.W.nsIn K mainGlobals "set" = some none)
    (z_len : PySem.W.nsIn K mainGlobals "len" = some none)
    (z_range : PySem.W.nsIn K mainGlobals "range" = some none)
    (z_sorted : PySem.W.nsIn K mainGlobals "sorted" = some none)
    (z_any : PySem.W.nsIn K mainGlobals "any" = some none)
    (z_max : PySem.W.nsIn K mainGlobals "max" = some none)
    (z_min : PySem.W.nsIn K mainGlobals "min" = some none)
    (z_ValueError : PySem.W.nsIn K mainGlobals "ValueError" = some none)
    (g_FEWEST_HOUSES : PySem.W.nsIn K mainGlobals "FEWEST_HOUSES" = some (some (.int 2 t_FEWEST_HOUSES)))
    (g_MOST_HOUSES : PySem.W.nsIn K mainGlobals "MOST_HOUSES" = some (some (.int 32 t_MOST_HOUSES)))
    (g_MOST_TIES_OUT : PySem.W.nsIn K mainGlobals "MOST_TIES_OUT" = some (some (.int 8 t_MOST_TIES_OUT)))
    (g_SMALLEST_RING : PySem.W.nsIn K mainGlobals "SMALLEST_RING" = some (some (.int 3 t_SMALLEST_RING)))
    (g_MOST_FIGURES : PySem.W.nsIn K mainGlobals "MOST_FIGURES" = some (some (.int 5 t_MOST_FIGURES)))
    (eB : ECls K cB)
    (e_NoNet : ECls K c0)
    (e_NoShape : ECls K c1)
    (e_NoTie : ECls K c2)
    (e_NoText : ECls K c3)
    (e_NoHouse : ECls K c4)
    (e_NoRanks : ECls K c5)
    (e_NoStand : ECls K c6)
    (e_NoBerth : ECls K c7)
    (e_NoHanding : ECls K c8)
    (e_NoPlan : ECls K c9)
    (e_TooMany : ECls K c10)
    (e_NoRow : ECls K c11)
    (ek : ekChk K cB [c0, c1, c2, c3, c4, c5, c6, c7, c8, c9, c10, c11] = true)
    (q_cd : PySem.W.codeHdIn K cO Pt = true) :
    ∃ fd : FuncData, (∀ (s : Shared) (v : Value), BindsTo s fd ⟨[v], []⟩ [("_law_script", v)]) ∧ ∀ base : Heap, K.In base → base.Ns mainGlobals mg → BmOk mg base → FnOk l.prog w K mg base CX0 11 fa fd ["_law_script"] (spLaw K Pt) := by
  have e := hfa.symm.trans (PySem.W.mg_of X G a_law)
  cases e
  have B : Bl mg := ⟨PySem.W.mg_none_of X G z_isinstance, PySem.W.mg_none_of X G z_int, PySem.W.mg_none_of X G z_bool, PySem.W.mg_none_of X G z_tuple, PySem.W.mg_none_of X G z_list, PySem.W.mg_none_of X G z_str, PySem.W.mg_none_of X G z_set, PySem.W.mg_none_of X G z_len, PySem.W.mg_none_of X G z_range, PySem.W.mg_none_of X G z_sorted, PySem.W.mg_none_of X G z_any, PySem.W.mg_none_of X G z_max, PySem.W.mg_none_of X G z_min, PySem.W.mg_none_of X G z_ValueError⟩
  have T : NT K mg C := ⟨⟨pg, q_hd, po, sa⟩, nH, nT, nO, nD, PySem.W.mg_of X G aC⟩
  let c : Nat → Addr := fun i => [c0, c1, c2, c3, c4, c5, c6, c7, c8, c9, c10, c11].getD i 0
  unfold ekChk at ek
  simp only [Bool.and_eq_true, List.all_eq_true] at ek
  obtain ⟨⟨⟨⟨ek1, ek2⟩, ek3⟩, ek4⟩, ek5⟩ := ek
  have R : Errs K mg cB c := ⟨⟨PySem.W.mg_of X G aB, eB⟩, ⟨PySem.W.mg_of X G a_NoNet, e_NoNet⟩, ⟨PySem.W.mg_of X G a_NoShape, e_NoShape⟩, ⟨PySem.W.mg_of X G a_NoTie, e_NoTie⟩, ⟨PySem.W.mg_of X G a_NoText, e_NoText⟩, ⟨PySem.W.mg_of X G a_NoHouse, e_NoHouse⟩, ⟨PySem.W.mg_of X G a_NoRanks, e_NoRanks⟩, ⟨PySem.W.mg_of X G a_NoStand, e_NoStand⟩, ⟨PySem.W.mg_of X G a_NoBerth, e_NoBerth⟩, ⟨PySem.W.mg_of X G a_NoHanding, e_NoHanding⟩, ⟨PySem.W.mg_of X G a_NoPlan, e_NoPlan⟩, ⟨PySem.W.mg_of X G a_TooMany, e_TooMany⟩, ⟨PySem.W.mg_of X G a_NoRow, e_NoRow⟩,
    fun i j hi hj => kOk_eq (ek1 i (List.mem_range.mpr hi) j (List.mem_range.mpr hj)), fun j hj => kOk_eq (ek2 j (List.mem_range.mpr hj)), fun i hi => kOk_eq (ek3 i (List.mem_range.mpr hi)), kOk_eq ek4, fun i hi => kOk_eq (ek5 i (List.mem_range.mpr hi))⟩
  have F_whole := fun_mk (x := "is_whole") (qual := "is_whole") (st := sWhole) l_whole d_whole k_whole
  have b_whole := F_whole.binds (ps := ["thing"]) fun _ _ _ _ _ _ us hl => match us, hl with | [_], _ => rfl
  have F_within := fun_mk (x := "is_whole_within") (qual := "is_whole_within") (st := sWithin) l_within d_within k_within
  have b_within := F_within.binds (ps := ["thing", "least", "most"]) fun _ _ _ _ _ _ us hl => match us, hl with | [_, _, _], _ => rfl
  have F_house := fun_mk (x := "is_house") (qual := "is_house") (st := sHouse) l_house d_house k_house
  have b_house := F_house.binds (ps := ["many", "thing"]) fun _ _ _ _ _ _ us hl => match us, hl with | [_, _], _ => rfl
  have F_row := fun_mk (x := "is_row") (qual := "is_row") (st := sRow) l_row d_row k_row
  have b_row := F_row.binds (ps := ["thing", "length"]) fun _ _ _ _ _ _ us hl => match us, hl with | [_, _], _ => rfl
  have F_cties := fun_mk (x := "check_ties") (qual := "check_ties") (st := sCTies) l_cties d_cties k_cties
  have b_cties := F_cties.binds (ps := ["many", "ties"]) fun _ _ _ _ _ _ us hl => match us, hl with | [_, _], _ => rfl
  have F_unl := fun_mk (x := "are_unlike_houses") (qual := "are_unlike_houses") (st := sUnl) l_unl d_unl k_unl
  have b_unl := F_unl.binds (ps := ["many", "one", "other"]) fun _ _ _ _ _ _ us hl => match us, hl with | [_, _, _], _ => rfl
  have F_tie := fun_mk (x := "is_tie") (qual := "is_tie") (st := sTie) l_tie d_tie k_tie
  have b_tie := F_tie.binds (ps := ["many", "thing"]) fun _ _ _ _ _ _ us hl => match us, hl with | [_, _], _ => rfl
  have F_bal := fun_mk (x := "check_balance") (qual := "check_balance") (st := sBal) l_bal d_bal k_bal
  have b_bal := F_bal.binds (ps := ["many", "ties"]) fun _ _ _ _ _ _ us hl => match us, hl with | [_, _], _ => rfl
  have F_outs := funC_mk (x := "houses_out") (qual := "houses_out") (st := sOuts) l_outs d_outs k_outs
  have b_outs := F_outs.fun.binds (ps := ["many", "ties", "house"]) fun _ _ _ _ _ _ us hl => match us, hl with | [_, _, _], _ => rfl
  have F_dist := fun_mk (x := "distances_from") (qual := "distances_from") (st := sDist) l_dist d_dist k_dist
  have b_dist := F_dist.binds (ps := ["out_lists", "start"]) fun _ _ _ _ _ _ us hl => match us, hl with | [_, _], _ => rfl
  have F_reach := fun_mk (x := "check_reached") (qual := "check_reached") (st := sReach) l_reach d_reach k_reach
  have b_reach := F_reach.binds (ps := ["distances"]) fun _ _ _ _ _ _ us hl => match us, hl with | [_], _ => rfl
  have F_box := fun_mk (x := "box_net") (qual := "box_net") (st := sBox) l_box d_box k_box
  have b_box := F_box.binds (ps := ["sides"]) fun _ _ _ _ _ _ us hl => match us, hl with | [_], _ => rfl
  have F_ring := fun_mk (x := "ring_net") (qual := "ring_net") (st := sRing) l_ring d_ring k_ring
  have b_ring := F_ring.binds (ps := ["many"]) fun _ _ _ _ _ _ us hl => match us, hl with | [_], _ => rfl
  have F_words := fun_mk (x := "words_net") (qual := "words_net") (st := sWords) l_words d_words k_words
  have b_words := F_words.binds (ps := ["figures", "base"]) fun _ _ _ _ _ _ us hl => match us, hl with | [_, _], _ => rfl
  have F_pairs := fun_mk (x := "pairs_net") (qual := "pairs_net") (st := sPairs) l_pairs d_pairs k_pairs
  have b_pairs := F_pairs.binds (ps := ["many", "pairs"]) fun _ _ _ _ _ _ us hl => match us, hl with | [_, _], _ => rfl
  have F_without := fun_mk (x := "without") (qual := "without") (st := sWithout) l_without d_without k_without
  have b_without := F_without.binds (ps := ["net", "one", "other"]) fun _ _ _ _ _ _ us hl => match us, hl with | [_, _, _], _ => rfl
  have F_tied := fun_mk (x := "are_tied") (qual := "are_tied") (st := sTied) l_tied d_tied k_tied
  have b_tied := F_tied.binds (ps := ["net", "one", "other"]) fun _ _ _ _ _ _ us hl => match us, hl with | [_, _, _], _ => rfl
  have F_sides := fun_mk (x := "check_sides") (qual := "check_sides") (st := sSides) l_sides d_sides k_sides
  have b_sides := F_sides.binds (ps := ["sides"]) fun _ _ _ _ _ _ us hl => match us, hl with | [_], _ => rfl
  have F_read := fun_mk (x := "read_net") (qual := "read_net") (st := sRead) l_read d_read k_read
  have b_read := F_read.binds (ps := ["text"]) fun _ _ _ _ _ _ us hl => match us, hl with | [_], _ => rfl
  have F_pot := fun_mk (x := "_law_pot") (qual := "_law_pot") (st := sPot) l_pot d_pot k_pot
  have b_pot := F_pot.binds (ps := ["_law_script", "_law_k"]) fun _ _ _ _ _ _ us hl => match us, hl with | [_, _], _ => rfl
  have F_digit := fun_mk (x := "_law_digit") (qual := "_law_digit") (st := sDigit) l_digit d_digit k_digit
  have b_digit := F_digit.binds (ps := ["_law_pot_here", "_law_many"]) fun _ _ _ _ _ _ us hl => match us, hl with | [_, _], _ => rfl
  have F_text := fun_mk (x := "_law_text") (qual := "_law_text") (st := sText) l_text d_text k_text
  have b_text := F_text.binds (ps := ["_law_pot_here"]) fun _ _ _ _ _ _ us hl => match us, hl with | [_], _ => rfl
  have F_kinds := fun_mk (x := "_law_kinds") (qual := "_law_kinds") (st := sKinds) l_kinds d_kinds k_kinds
  have b_kinds := F_kinds.binds (ps := ["_law_e"]) fun _ _ _ _ _ _ us hl => match us, hl with | [_], _ => rfl
  have F_bare := fun_mk (x := "_law_bare") (qual := "_law_bare") (st := sBare) l_bare d_bare k_bare
  have b_bare := F_bare.binds (ps := []) fun _ _ _ _ _ _ us hl => match us, hl with | [], _ => rfl
  have F_worded := fun_mk (x := "_law_worded") (qual := "_law_worded") (st := sWorded) l_worded d_worded k_worded
  have b_worded := F_worded.binds (ps := ["_law_text_here"]) fun _ _ _ _ _ _ us hl => match us, hl with | [_], _ => rfl
  have F_made := fun_mk (x := "_law_made_right") (qual := "_law_made_right") (st := sMade) l_made d_made k_made
  have b_made := F_made.binds (ps := ["_law_text_here"]) fun _ _ _ _ _ _ us hl => match us, hl with | [_], _ => rfl
  have F_wrong := fun_mk (x := "_law_wrong") (qual := "_law_wrong") (st := sWrong) l_wrong d_wrong k_wrong
  have b_wrong := F_wrong.binds (ps := ["_law_pot_here", "_law_deed", "_law_net"]) fun _ _ _ _ _ _ us hl => match us, hl with | [_, _, _], _ => rfl
  have F_refd := fun_mk (x := "_law_refused_right") (qual := "_law_refused_right") (st := sRefd) l_refd d_refd k_refd
  have b_refd := F_refd.binds (ps := ["_law_pot_here", "_law_net"]) fun _ _ _ _ _ _ us hl => match us, hl with | [_, _], _ => rfl
  have F_order := fun_mk (x := "_law_order") (qual := "_law_order") (st := sOrder) l_order d_order k_order
  have b_order := F_order.binds (ps := ["_law_pot_here", "_law_many"]) fun _ _ _ _ _ _ us hl => match us, hl with | [_, _], _ => rfl
  have F_law := fun_mk (x := "law") (qual := "law") (st := sLaw) l_law d_law k_law
  have b_law := F_law.binds (ps := ["_law_script"]) fun _ _ _ _ _ _ us hl => match us, hl with | [_], _ => rfl
  have F_m_init := fun_mk (x := "__init__") (qual := "Net.__init__") (st := sInit) l_m_init d_m_init k_m_init
  have b_m_init := F_m_init.binds (ps := ["self", "many", "ties"]) fun _ _ _ _ _ _ us hl => match us, hl with | [_, _, _], _ => rfl
  have F_m_many := fun_mk (x := "many") (qual := "Net.many") (st := sMany) l_m_many d_m_many k_m_many
  have b_m_many := F_m_many.binds (ps := ["self"]) fun _ _ _ _ _ _ us hl => match us, hl with | [_], _ => rfl
  have F_m_ties := fun_mk (x := "ties") (qual := "Net.ties") (st := sTies) l_m_ties d_m_ties k_m_ties
  have b_m_ties := F_m_ties.binds (ps := ["self"]) fun _ _ _ _ _ _ us hl => match us, hl with | [_], _ => rfl
  have F_m_out := fun_mk (x := "out") (qual := "Net.out") (st := sOut) l_m_out d_m_out k_m_out
  have b_m_out := F_m_out.binds (ps := ["self", "house"]) fun _ _ _ _ _ _ us hl => match us, hl with | [_, _], _ => rfl
  have F_m_check := fun_mk (x := "check_house") (qual := "Net.check_house") (st := sCheck) l_m_check d_m_check k_m_check
  have b_m_check := F_m_check.binds (ps := ["self", "thing"]) fun _ _ _ _ _ _ us hl => match us, hl with | [_, _], _ => rfl
  refine ⟨PySem.W.fnOf "law" "law" (defArgs sLaw) (defBody sLaw) (defScope sLaw) .none kV_law dc_law pm_law an_law cd_law ct_law, fun s v => .of_eq rfl, fun base kb nb hb => ?_⟩
  have C_whole : Cal l.prog w K mg base CX0 1 "is_whole" ["thing"] (spWhole K) := ⟨⟨f_whole, _, PySem.W.mg_of X G a_whole, k_whole, b_whole, ok_whole F_whole B⟩⟩
  have C_within : Cal l.prog w K mg base CX0 2 "is_whole_within" ["thing", "least", "most"] (spWithin K) := ⟨⟨f_within, _, PySem.W.mg_of X G a_within, k_within, b_within, ok_within F_within C_whole⟩⟩
  have C_house : Cal l.prog w K mg base CX0 3 "is_house" ["many", "thing"] (spHouse K) := ⟨⟨f_house, _, PySem.W.mg_of X G a_house, k_house, b_house, ok_house F_house C_within⟩⟩
  have C_row : Cal l.prog w K mg base CX0 1 "is_row" ["thing", "length"] (spRow K) := ⟨⟨f_row, _, PySem.W.mg_of X G a_row, k_row, b_row, ok_row F_row B⟩⟩
  have C_unl : Cal l.prog w K mg base CX0 4 "are_unlike_houses" ["many", "one", "other"] spUnl := ⟨⟨f_unl, _, PySem.W.mg_of X G a_unl, k_unl, b_unl, ok_unl F_unl C_house⟩⟩
  have C_tie : Cal l.prog w K mg base CX0 5 "is_tie" ["many", "thing"] spTie := ⟨⟨f_tie, _, PySem.W.mg_of X G a_tie, k_tie, b_tie, ok_tie F_tie C_row C_unl⟩⟩
  have C_cties : Cal l.prog w K mg base (CXf l.prog w) 6 "check_ties" ["many", "ties"] (spCTies K (c 0)) := ⟨⟨f_cties, _, PySem.W.mg_of X G a_cties, k_cties, b_cties, ok_cties F_cties B R.e0 ⟨_, PySem.W.mg_of X G g_FEWEST_HOUSES⟩ ⟨_, PySem.W.mg_of X G g_MOST_HOUSES⟩ C_within C_tie⟩⟩
  have C_bal : Cal l.prog w K mg base CX0 1 "check_balance" ["many", "ties"] spBal := ⟨⟨f_bal, _, PySem.W.mg_of X G a_bal, k_bal, b_bal, ok_bal F_bal B ⟨_, PySem.W.mg_of X G g_MOST_TIES_OUT⟩⟩⟩
  have C_outs : Cal l.prog w K mg base CX0 1 "houses_out" ["many", "ties", "house"] (spOuts Pt) := ⟨⟨f_outs, _, PySem.W.mg_of X G a_outs, k_outs, b_outs, ok_outs F_outs B kb hb q_cd⟩⟩
  have C_dist : Cal l.prog w K mg base CX0 1 "distances_from" ["out_lists", "start"] spDist := ⟨⟨f_dist, _, PySem.W.mg_of X G a_dist, k_dist, b_dist, ok_dist F_dist B⟩⟩
  have C_reach : Cal l.prog w K mg base CX0 1 "check_reached" ["distances"] spReach := ⟨⟨f_reach, _, PySem.W.mg_of X G a_reach, k_reach, b_reach, ok_reach F_reach B⟩⟩
  have G_init : FnOk l.prog w K mg base (CXf l.prog w) 7 f_m_init _ ["self", "many", "ties"] (spInit K C (c 0) Pt) := ok_init F_m_init T B C_cties C_bal C_outs C_dist C_reach
  have M_check : MCal l.prog w K mg base (CXf l.prog w) 4 C "check_house" ["self", "thing"] (spRefuse K C (c 4) fun x => [x]) := ⟨⟨f_m_check, _, ⟨a_m_check, i_m_check, k_m_check⟩, b_m_check, ok_check F_m_check T R.e4 C_house⟩⟩
  have M_out : MCal l.prog w K mg base (CXf l.prog w) 5 C "out" ["self", "house"] (spRefuse K C (c 4) fun x => [x]) := ⟨⟨f_m_out, _, ⟨a_m_out, i_m_out, k_m_out⟩, b_m_out, ok_out F_m_out T M_check⟩⟩
  have M_many : MCal l.prog w K mg base CX0 1 C "many" ["self"] (spMany K C) := ⟨⟨f_m_many, _, ⟨a_m_many, i_m_many, k_m_many⟩, b_m_many, ok_many F_m_many T⟩⟩
  have M_ties : MCal l.prog w K mg base CX0 1 C "ties" ["self"] (spTies K C) := ⟨⟨f_m_ties, _, ⟨a_m_ties, i_m_ties, k_m_ties⟩, b_m_ties, ok_ties F_m_ties T B⟩⟩
  have C_pairs : Cal l.prog w K mg base (CXf l.prog w) 2 "pairs_net" ["many", "pairs"] (spPairs K (c 0)) := ⟨⟨f_pairs, _, PySem.W.mg_of X G a_pairs, k_pairs, b_pairs, ok_pairs F_pairs B R.e0 C_row⟩⟩
  have C_ring : Cal l.prog w K mg base (CXf l.prog w) 3 "ring_net" ["many"] (spRef K (c 1) 3 32 fun x => [x]) := ⟨⟨f_ring, _, PySem.W.mg_of X G a_ring, k_ring, b_ring, ok_ring F_ring R.e1 ⟨_, PySem.W.mg_of X G g_SMALLEST_RING⟩ ⟨_, PySem.W.mg_of X G g_MOST_HOUSES⟩ C_within⟩⟩
  have C_words : Cal l.prog w K mg base (CXf l.prog w) 3 "words_net" ["figures", "base"] (spRef K (c 1) 1 5 fun x => [x, x]) := ⟨⟨f_words, _, PySem.W.mg_of X G a_words, k_words, b_words, ok_words F_words R.e1 ⟨_, PySem.W.mg_of X G g_MOST_FIGURES⟩ C_within⟩⟩
  have C_sides : Cal l.prog w K mg base (CXf l.prog w) 1 "check_sides" ["sides"] (spLst (c 1)) := ⟨⟨f_sides, _, PySem.W.mg_of X G a_sides, k_sides, b_sides, ok_sides F_sides B R.e1⟩⟩
  have C_box : Cal l.prog w K mg base (CXf l.prog w) 2 "box_net" ["sides"] (spLst (c 1)) := ⟨⟨f_box, _, PySem.W.mg_of X G a_box, k_box, b_box, ok_box F_box C_sides⟩⟩
  have C_read : Cal l.prog w K mg base (CXf l.prog w) 1 "read_net" ["text"] (spLst (c 3)) := ⟨⟨f_read, _, PySem.W.mg_of X G a_read, k_read, b_read, ok_read F_read B R.e3⟩⟩
  have C_tied : Cal l.prog w K mg base CX0 4 "are_tied" ["net", "one", "other"] (spTied K C) := ⟨⟨f_tied, _, PySem.W.mg_of X G a_tied, k_tied, b_tied, ok_tied F_tied T M_many C_house⟩⟩
  have C_without : Cal l.prog w K mg base (CXf l.prog w) 5 "without" ["net", "one", "other"] (spRefuse K C (c 2) fun x => [x, x]) := ⟨⟨f_without, _, PySem.W.mg_of X G a_without, k_without, b_without, ok_without F_without R.e2 C_tied⟩⟩
  have C_pot : Cal l.prog w K mg base CX0 1 "_law_pot" ["_law_script", "_law_k"] (spPot K) := ⟨⟨f_pot, _, PySem.W.mg_of X G a_pot, k_pot, b_pot, ok_pot F_pot B⟩⟩
  have C_digit : Cal l.prog w K mg base CX0 1 "_law_digit" ["_law_pot_here", "_law_many"] spDigit := ⟨⟨f_digit, _, PySem.W.mg_of X G a_digit, k_digit, b_digit, ok_digit F_digit⟩⟩
  have C_text : Cal l.prog w K mg base CX0 2 "_law_text" ["_law_pot_here"] spText := ⟨⟨f_text, _, PySem.W.mg_of X G a_text, k_text, b_text, ok_text F_text B C_digit⟩⟩
  have C_order : Cal l.prog w K mg base CX0 2 "_law_order" ["_law_pot_here", "_law_many"] spOrder := ⟨⟨f_order, _, PySem.W.mg_of X G a_order, k_order, b_order, ok_order F_order B C_digit⟩⟩
  have C_kinds : CalW l.prog w K mg base 1 "_law_kinds" ["_law_e"] (spKinds K c) := ⟨⟨f_kinds, _, PySem.W.mg_of X G a_kinds, k_kinds, b_kinds, ok_kinds F_kinds B R⟩⟩
  have C_bare : Cal l.prog w K mg base CX0 1 "_law_bare" [] (spTwelve c fun vs => vs = []) := ⟨⟨f_bare, _, PySem.W.mg_of X G a_bare, k_bare, b_bare, ok_bare F_bare R⟩⟩
  have C_worded : Cal l.prog w K mg base CX0 1 "_law_worded" ["_law_text_here"] (spTwelve c fun vs => ∃ z, vs = [.str z]) := ⟨⟨f_worded, _, PySem.W.mg_of X G a_worded, k_worded, b_worded, ok_worded F_worded R⟩⟩
  have C_made : Cal l.prog w K mg base CX0 2 "_law_made_right" ["_law_text_here"] spMade := ⟨⟨f_made, _, PySem.W.mg_of X G a_made, k_made, b_made, ok_made F_made B R C_kinds C_bare C_worded⟩⟩
  have MK : Mk K C f_m_init := ⟨mk, a_m_init, i_m_init, kc⟩
  have C_wrong : Cal l.prog w K mg base (CXf l.prog w) 9 "_law_wrong" ["_law_pot_here", "_law_deed", "_law_net"] (spWrong K C c) := ⟨⟨f_wrong, _, PySem.W.mg_of X G a_wrong, k_wrong, b_wrong, ok_wrong (cB := cB) F_wrong T C_digit MK b_m_init G_init C_pairs C_ring C_words C_box C_without C_read M_out⟩⟩
  have C_refd : Cal l.prog w K mg base CX0 10 "_law_refused_right" ["_law_pot_here", "_law_net"] (spRefd K C) := ⟨⟨f_refd, _, PySem.W.mg_of X G a_refd, k_refd, b_refd, ok_refd F_refd B R C_kinds C_order C_wrong⟩⟩
  exact ok_law F_law B T C_pot C_digit MK b_m_init G_init C_text C_made C_refd M_ties M_many
theorem ex_cd {K : PySem.W.Frag} {P : Addr} (h : ((List.range 2000).any fun c => PySem.W.codeHdIn K c P) = true) : ∃ c, PySem.W.codeHdIn K c P = true :=
  let ⟨c, _, e⟩ := List.any_eq_true.mp h; ⟨c, e⟩
/-- the script at the law's entry -/
theorem sqF_of {K : PySem.W.Frag} {H : Hp} {a : Addr} {xs : List V} {ts : List Addr} (hO : OnlyT ts H) (h : SqL K H a xs) : SqF K H a xs := by
  rcases h with h | h
  · rcases h with h | ⟨o, h⟩
    · rcases hO.2 a with z | ⟨_, z⟩ | ⟨o, ys, z⟩ <;> · rw [h] at z; cases z
    · exact .inl ⟨o, h⟩
  · exact .inr fun H' => .inr h
theorem walk {l : PySem.W.OpenLaw} {q : Program} {loose : List Str} {XP : (Str → Option Value) → Heap → Prop} {YP : World → Heap → Prop} {d : DefRec} {K : Params → PySem.W.Frag} {Pt : Addr} (hn : l.most = some 63) (hdf : d.params.defaults = [])
    (hY : ∀ (w : World) (h : Heap), YP w h → (K w.params).In h) (hT : ∀ (w : World) (h : Heap), YP w h → ∀ P ∈ [Pt], h.get? P = some (PySem.W.tabObj #[]))
    (hcd : ∀ (w : World), ((List.range 2000).any fun c => PySem.W.codeHdIn (K w.params) c Pt) = true) (hkt : ∀ (w : World), (K w.params).lookup Pt = none)
    (F : ∀ (w : World) (mg : Str → Option Value) (fa : Addr) (h : Heap), (K w.params).In h → h.Ns mainGlobals mg → mg d.name = some (.ref fa) →
      ∃ fd : FuncData, (∀ (s : Shared) (u : Value), BindsTo s fd ⟨[u], []⟩ [("_law_script", u)]) ∧ ∀ base : Heap, (K w.params).In base → base.Ns mainGlobals mg → BmOk mg base → FnOk l.prog w (K w.params) mg base CX0 11 fa fd ["_law_script"] (spLaw (K w.params) Pt)) :
    PySem.W.WalkO q loose XP YP l.row.toRowW d [] (fun f vs => PySem.call f vs) :=
  walk_ofT (n := 63) (k := 11) (x := "_law_script") (ts := [Pt]) (K := K) (CX := fun _ => CX0) (sp := fun w => spLaw (K w.params) Pt) hn (by decide) hdf ⟨rfl, by decide, by decide⟩ hY hT
    (fun w P hP => by rw [List.mem_singleton.mp hP]; exact ex_cd (hcd w)) (fun w P hP => by rw [List.mem_singleton.mp hP]; exact hkt w) F
    (fun w H a ns hl hO hS => ⟨a, ns, rfl, sqF_of hO hS, hl, .inl (hO.1 _ (by simp)), fun _ => rfl⟩) fun _ _ _ _ _ z => z
end K19

set_option Elab.async false
open PySem PySem.W PyProof.Rows
theorem PySem.W.Fast.tw12905584703232654291 : True := trivial
theorem PySem.W.Fast.tw14838459061718738182 : True := trivial
theorem PySem.W.Fast.tw12005084947346300799 : True := trivial
theorem PySem.W.Fast.tw35416501206222649 : True := trivial
theorem PySem.W.Fast.tw10436478802410578690 : True := trivial
theorem PySem.W.Fast.tw17879429622572151353 : True := trivial
theorem PySem.W.Fast.tw1987996104743812293 : True := trivial
theorem PySem.W.Fast.tw11899396175572519568 : True := trivial
theorem PySem.W.Fast.tw16379566028361498890 : True := trivial
theorem PySem.W.Fast.tw12185843495081366324 : True := trivial
theorem PySem.W.Fast.tw2075281602832674475 : True := trivial
theorem PySem.W.Fast.tw9098438518186624551 : True := trivial
theorem PySem.W.Fast.tw14665649450106476771 : True := trivial
theorem PySem.W.Fast.tw13947240395264621646 : True := trivial
theorem PySem.W.Fast.tw13690370024011151987 : True := trivial
theorem PySem.W.Fast.tw16157286314015453158 : True := trivial
theorem PySem.W.Fast.tw4764385600896900110 : True := trivial
theorem PySem.W.Fast.tw5763074364110131098 : True := trivial
theorem PySem.W.Fast.tw1415370168501748010 : True := trivial
theorem PySem.W.Fast.tw12255085884309713103 : True := trivial
theorem PySem.W.Fast.tw10843967738852076415 : True := trivial
theorem PySem.W.Fast.tw3703478677692703693 : True := trivial
theorem PySem.W.Fast.tw2361909644631022226 : True := trivial
theorem PySem.W.Fast.tw11009676463939257253 : True := trivial
theorem PySem.W.Fast.tw11484159433219850529 : True := trivial
theorem PySem.W.Fast.tw4298008913942282527 : True := trivial
theorem PySem.W.Fast.tw1854383817269235546 : True := trivial
theorem PySem.W.Fast.tw6640852491689039031 : True := trivial
theorem PySem.W.Fast.tw17557391848554530510 : True := trivial
theorem PySem.W.Fast.tw12644458614620933614 : True := trivial
theorem PySem.W.Fast.tw9056378364480943218 : True := trivial
theorem PySem.W.Fast.tw7959171361434249995 : True := trivial
theorem PySem.W.Fast.tw9138015868897609845 : True := trivial
theorem PySem.W.Fast.tw53650356210736169 : True := trivial
theorem PySem.W.Fast.tw15878719523945765790 : True := trivial
theorem PySem.W.Fast.tw16366257770864536913 : True := trivial
theorem PySem.W.Fast.tw6956483107496864791 : True := trivial
theorem PySem.W.Fast.tw11121234495630474931 : True := trivial
theorem PySem.W.Fast.tw287377896856595609 : True := trivial
theorem PySem.W.Fast.tw10778261227725869596 : True := trivial
theorem PySem.W.Fast.tw10208660364990567847 : True := trivial
theorem PySem.W.Fast.tw5168177874012554983 : True := trivial
theorem PySem.W.Fast.tw8122268066064475591 : True := trivial
theorem PySem.W.Fast.tw8594563253773582485 : True := trivial
theorem PySem.W.Fast.tw15309458586754164525 : True := trivial
theorem PySem.W.Fast.tw9419577219866937722 : True := trivial
theorem PySem.W.Fast.tw14248161580559993240 : True := trivial
theorem PySem.W.Fast.tw3319850562947399206 : True := trivial
theorem PySem.W.Fast.tw12790442691685022962 : True := trivial
theorem PySem.W.Fast.tw15839347770202579717 : True := trivial
theorem PySem.W.Fast.tw13842669764935965008 : True := trivial
theorem PySem.W.Fast.tw1080436274223402756 : True := trivial
theorem PySem.W.Fast.tw12248576567264201196 : True := trivial
theorem PySem.W.Fast.tw10289935864211436295 : True := trivial
theorem PySem.W.Fast.tw1529791372477036299 : True := trivial
theorem PySem.W.Fast.tw9385882330543316765 : True := trivial
theorem PySem.W.Fast.tw15560918769441285810 : True := trivial
theorem PySem.W.Fast.tw1630725976277737368 : True := trivial
theorem PySem.W.Fast.tw12933440206439279307 : True := trivial
theorem PySem.W.Fast.tw399380696126414199 : True := trivial
theorem PySem.W.Fast.tw14511202905159217350 : True := trivial
theorem PySem.W.Fast.tw14816512723162978954 : True := trivial
theorem PySem.W.Fast.tw12687437072755564178 : True := trivial
theorem PySem.W.Fast.tw12147377204842587050 : True := trivial
theorem PySem.W.Fast.tw6068690794252602605 : True := trivial
theorem PySem.W.Fast.tw9493460130900405406 : True := trivial
theorem PySem.W.Fast.tw11911944219182445911 : True := trivial
theorem PySem.W.Fast.tw8558098746030931976 : True := trivial
theorem PySem.W.Fast.tw11142708451832361909 : True := trivial
theorem PySem.W.Fast.tw15635503800806783647 : True := trivial
theorem PySem.W.Fast.tw18257224569275455583 : True := trivial
theorem PySem.W.Fast.tw14085788056115847001 : True := trivial
theorem PySem.W.Fast.tw8810892187633847050 : True := trivial
theorem PySem.W.Fast.tw12883914997241397453 : True := trivial
theorem PySem.W.Fast.tw17932368435131464332 : True := trivial
theorem PySem.W.Fast.tw17042727157768615277 : True := trivial
theorem PySem.W.Fast.tw2162278585608781983 : True := trivial
theorem PySem.W.Fast.tw16657725331275019849 : True := trivial
theorem PySem.W.Fast.tw14384093990696529630 : True := trivial
theorem PySem.W.Fast.tw4185686382905962840 : True := trivial
theorem PySem.W.Fast.tw3295147983920322545 : True := trivial
theorem PySem.W.Fast.tw9576686929177687111 : True := trivial
theorem PySem.W.Fast.tw7917900907852084653 : True := trivial
theorem PySem.W.Fast.tw6701486612507228623 : True := trivial
theorem PySem.W.Fast.tw13785721869372341859 : True := trivial
theorem PySem.W.Fast.tw10391242764183951679 : True := trivial
theorem PySem.W.Fast.tw1511857877481070767 : True := trivial
theorem PySem.W.Fast.tw8171393588248117536 : True := trivial
theorem PySem.W.Fast.tw2317271721076613177 : True := trivial
theorem PySem.W.Fast.tw17682832702098510438 : True := trivial
theorem PySem.W.Fast.tw4648676655968916537 : True := trivial
theorem PySem.W.Fast.tw6022183867400410507 : True := trivial
theorem PySem.W.Fast.tw2018597832176168164 : True := trivial
theorem PySem.W.Fast.tw1593890815903871774 : True := trivial
theorem PySem.W.Fast.tw14743613615780657154 : True := trivial
theorem PySem.W.Fast.tw10186252137581918392 : True := trivial
theorem PySem.W.Fast.tw7696950867577020271 : True := trivial
theorem PySem.W.Fast.tw3747834270384387258 : True := trivial
theorem PySem.W.Fast.tw7254435283655185857 : True := trivial
theorem PySem.W.Fast.tw7060904947095808649 : True := trivial
theorem PySem.W.Fast.tw9495979709300589559 : True := trivial
theorem PySem.W.Fast.tw10070210959160405499 : True := trivial
theorem PySem.W.Fast.tw4686095874204194103 : True := trivial
theorem PySem.W.Fast.tw9102813788450262762 : True := trivial
theorem PySem.W.Fast.tw13461610582378647704 : True := trivial
theorem PySem.W.Fast.tw10618919327527689321 : True := trivial
theorem PySem.W.Fast.tw28884625813995838 : True := trivial
theorem PySem.W.Fast.tw10870480781542333078 : True := trivial
theorem PySem.W.Fast.tw12503835789409042553 : True := trivial
theorem PySem.W.Fast.tw18212635933718642643 : True := trivial
theorem PySem.W.Fast.tw5673743211187921431 : True := trivial
theorem PySem.W.Fast.tw12720310371352163845 : True := trivial
theorem PySem.W.Fast.tw12051876075146174630 : True := trivial
theorem PySem.W.Fast.tw11699610233687766522 : True := trivial
theorem PySem.W.Fast.tw8339189393171082808 : True := trivial
theorem PySem.W.Fast.tw13218043711184404526 : True := trivial
theorem PySem.W.Fast.tw2356441149713715630 : True := trivial
theorem PySem.W.Fast.tw16519529475030400441 : True := trivial
theorem PySem.W.Fast.tw13823242392126026745 : True := trivial
theorem PySem.W.Fast.tw17948701477115086410 : True := trivial
theorem PySem.W.Fast.tw12358051078828630055 : True := trivial
theorem PySem.W.Fast.tw11726061571721725642 : True := trivial
theorem PySem.W.Fast.tw7993038898925013275 : True := trivial
theorem PySem.W.Fast.tw1024747793420014026 : True := trivial
theorem PySem.W.Fast.tw5406458227078204673 : True := trivial
theorem PySem.W.Fast.tw15614996689270438309 : True := trivial
theorem PySem.W.Fast.tw7430613685663119181 : True := trivial
theorem PySem.W.Fast.tw14775060625155628971 : True := trivial
theorem PySem.W.Fast.tw7769731855227968482 : True := trivial
theorem PySem.W.Fast.tw13913332161964605175 : True := trivial
theorem PySem.W.Fast.tw9617187162447397051 : True := trivial
theorem PySem.W.Fast.tw10765379243470423178 : True := trivial
theorem PySem.W.Fast.tw3288467347294321464 : True := trivial
theorem PySem.W.Fast.tw2928187787907882900 : True := trivial
theorem PySem.W.Fast.tw13506786422140964524 : True := trivial
theorem PySem.W.Fast.tw17978679890707948680 : True := trivial
theorem PySem.W.Fast.tw15592180680226312342 : True := trivial
theorem PySem.W.Fast.tw11268401855045558058 : True := trivial
theorem PySem.W.Fast.tw17673806506764173748 : True := trivial
theorem PySem.W.Fast.tw14311081473467270650 : True := trivial
theorem PySem.W.Fast.tw1725887156048616145 : True := trivial
theorem PySem.W.Fast.tw2970210750533608249 : True := trivial
theorem PySem.W.Fast.tw18443971514992230271 : True := trivial
theorem PySem.W.Fast.tw10324812017887676352 : True := trivial
theorem PySem.W.Fast.tw5846736746035804691 : True := trivial
theorem PySem.W.Fast.tw11420414936143975469 : True := trivial
theorem PySem.W.Fast.tw5040508621102095777 : True := trivial
theorem PySem.W.Fast.tw17925314359251980568 : True := trivial
theorem PySem.W.Fast.tw606854440050400046 : True := trivial
theorem PySem.W.Fast.tw3735542510325670847 : True := trivial
theorem PySem.W.Fast.tw12184667907740471242 : True := trivial
theorem PySem.W.Fast.tw1809243918883543652 : True := trivial
theorem PySem.W.Fast.tw4268145627569785171 : True := trivial
theorem PySem.W.Fast.tw5303443345884312865 : True := trivial
theorem PySem.W.Fast.tw3073961434434923839 : True := trivial
theorem PySem.W.Fast.tw11487796504074302036 : True := trivial
theorem PySem.W.Fast.tw10450698993409171976 : True := trivial
theorem PySem.W.Fast.tw2018663699874881688 : True := trivial
theorem PySem.W.Fast.tw9608889060213562772 : True := trivial
theorem PySem.W.Fast.tw6483444918790885561 : True := trivial
theorem PySem.W.Fast.tw9198682101306944311 : True := trivial
theorem PySem.W.Fast.tw420459890903512046 : True := trivial
theorem PySem.W.Fast.tw15231316189476639970 : True := trivial
theorem PySem.W.Fast.tw14808054614820980394 : True := trivial
theorem PySem.W.Fast.tw13309523475139910761 : True := trivial
theorem PySem.W.Fast.tw143461019046698392 : True := trivial
theorem PySem.W.Fast.tw7919417395911843806 : True := trivial
theorem PySem.W.Fast.tw8526483348412428719 : True := trivial
theorem PySem.W.Fast.tw17492728213714371399 : True := trivial
theorem PySem.W.Fast.tw11113404709221879440 : True := trivial
theorem PySem.W.Fast.tw13562376379991425139 : True := trivial
theorem PySem.W.Fast.tw1396546581875496420 : True := trivial
theorem PySem.W.Fast.tw18142010092603526231 : True := trivial
theorem PySem.W.Fast.tw9644352339956116144 : True := trivial
theorem PySem.W.Fast.tw15486154744031742404 : True := trivial
theorem PySem.W.Fast.tw13372630817848782015 : True := trivial
theorem PySem.W.Fast.tw16795561290858135350 : True := trivial
theorem PySem.W.Fast.tw10006954918568641907 : True := trivial
theorem PySem.W.Fast.tw679354643136023376 : True := trivial
theorem PySem.W.Fast.tw15013584680879057668 : True := trivial
theorem PySem.W.Fast.tw16590022005476930955 : True := trivial
theorem PySem.W.Fast.tw11273887599864923979 : True := trivial
theorem PySem.W.Fast.tw1352780552477347836 : True := trivial
theorem PySem.W.Fast.tw12182572862582023794 : True := trivial
theorem PySem.W.Fast.tw12827190625285999044 : True := trivial
theorem PySem.W.Fast.tw7018184731289436578 : True := trivial
theorem PySem.W.Fast.tw13392936062101438718 : True := trivial
theorem PySem.W.Fast.tw7978061849249400262 : True := trivial
theorem PySem.W.Fast.tw1942170630700252960 : True := trivial
theorem PySem.W.Fast.tw14149406017732896910 : True := trivial
theorem PySem.W.Fast.tw7220211310119922623 : True := trivial
theorem PySem.W.Fast.tw17524722320988166981 : True := trivial
theorem PySem.W.Fast.tw4391139071694622381 : True := trivial
theorem PySem.W.Fast.tw9952679623934456712 : True := trivial
theorem PySem.W.Fast.tw10166130472625413687 : True := trivial
theorem PySem.W.Fast.tw18244876514137531731 : True := trivial
theorem PySem.W.Fast.tw6145519318994287128 : True := trivial
theorem PySem.W.Fast.tw16788194308715089638 : True := trivial
theorem PySem.W.Fast.tw3385153471958993595 : True := trivial
theorem PySem.W.Fast.tw1754936222373327676 : True := trivial
theorem PySem.W.Fast.tw14565366298480003582 : True := trivial
theorem PySem.W.Fast.tw261682486388525689 : True := trivial
theorem PySem.W.Fast.tw4349337954267373321 : True := trivial
theorem PySem.W.Fast.tw12314040618137404689 : True := trivial
theorem PySem.W.Fast.tw1789635178730623682 : True := trivial
theorem PySem.W.Fast.tw8756510997170502426 : True := trivial
theorem PySem.W.Fast.tw18261186041156720129 : True := trivial
theorem PySem.W.Fast.tw13474036046377063348 : True := trivial
theorem PySem.W.Fast.tw3668435140701607499 : True := trivial
theorem PySem.W.Fast.tw17136094676936985054 : True := trivial
theorem PySem.W.Fast.tw14823285089830643984 : True := trivial
theorem PySem.W.Fast.tw8104201218342022321 : True := trivial
theorem PySem.W.Fast.tw4811952700887474537 : True := trivial
theorem PySem.W.Fast.tw5109943319563154322 : True := trivial
theorem PySem.W.Fast.tw13188097858513464063 : True := trivial
theorem PySem.W.Fast.tw5389904912564767053 : True := trivial
theorem PySem.W.Fast.tw6703426710397000494 : True := trivial
theorem PySem.W.Fast.tw9514762332009460652 : True := trivial
theorem PySem.W.Fast.tw2032470891736421274 : True := trivial
theorem PySem.W.Fast.tw104103919463096880 : True := trivial
theorem PySem.W.Fast.tw6797800231259928786 : True := trivial
theorem PySem.W.Fast.tw5883081566953259676 : True := trivial
theorem PySem.W.Fast.tw10883106027418140367 : True := trivial
theorem PySem.W.Fast.tw4265739231977399729 : True := trivial
theorem PySem.W.Fast.tw4729715667345943431 : True := trivial
theorem PySem.W.Fast.tw12269325556091208369 : True := trivial
theorem PySem.W.Fast.tw14513381215895464461 : True := trivial
theorem PySem.W.Fast.tw13582276424647820150 : True := trivial
theorem PySem.W.Fast.tw14134471053929102568 : True := trivial
theorem PySem.W.Fast.tw14763831561618681956 : True := trivial
theorem PySem.W.Fast.tw5785953433333173129 : True := trivial
theorem PySem.W.Fast.tw18427704933131377072 : True := trivial
theorem PySem.W.Fast.tw16745326485489682382 : True := trivial
theorem PySem.W.Fast.tw216507563014130519 : True := trivial
theorem PySem.W.Fast.tw9870769433430036373 : True := trivial
theorem PySem.W.Fast.tw17930142311298053558 : True := trivial
theorem PySem.W.Fast.tw11512078181677019004 : True := trivial
theorem PySem.W.Fast.tw17626181000656899168 : True := trivial
theorem PySem.W.Fast.tw4230879682746781328 : True := trivial
theorem PySem.W.Fast.tw14584901764484747438 : True := trivial
theorem PySem.W.Fast.tw8383509192094222739 : True := trivial
theorem PySem.W.Fast.tw12602500268160905827 : True := trivial
theorem PySem.W.Fast.tw16015760895182508756 : True := trivial
theorem PySem.W.Fast.tw9623738134679923166 : True := trivial
theorem PySem.W.Fast.tw9222848485927626665 : True := trivial
theorem PySem.W.Fast.tw2559078901267321494 : True := trivial
theorem PySem.W.Fast.tw2552961227134393967 : True := trivial
theorem PySem.W.Fast.tw9777664671312802957 : True := trivial
theorem PySem.W.Fast.tw5766712263474626126 : True := trivial
theorem PySem.W.Fast.tw7780280978809409728 : True := trivial
theorem PySem.W.Fast.tw13909695325225395665 : True := trivial
theorem PySem.W.Fast.tw16162507777744174489 : True := trivial
theorem PySem.W.Fast.tw12734941702016489503 : True := trivial
theorem PySem.W.Fast.tw7212532408692010375 : True := trivial
theorem PySem.W.Fast.tw16941890696418118363 : True := trivial
theorem PySem.W.Fast.tw950896709153079436 : True := trivial
theorem PySem.W.Fast.tw1816674475414865695 : True := trivial
theorem PySem.W.Fast.tw14408616629516655862 : True := trivial
theorem PySem.W.Fast.tw18015492565059484612 : True := trivial
theorem PySem.W.Fast.tw18424686374665242007 : True := trivial
theorem PySem.W.Fast.tw8507142055937219645 : True := trivial
theorem PySem.W.Fast.tw14688693541503034280 : True := trivial
theorem PySem.W.Fast.tw13561501056617161194 : True := trivial
theorem PySem.W.Fast.tw13692083269200546490 : True := trivial
theorem PySem.W.Fast.tw8068062838136398680 : True := trivial
theorem PySem.W.Fast.tw4635386787873810627 : True := trivial
theorem PySem.W.Fast.tw7503196860845155450 : True := trivial
theorem PySem.W.Fast.tw983597734209341042 : True := trivial
theorem PySem.W.Fast.tw14091691502621223792 : True := trivial
theorem PySem.W.Fast.tw14988903806108537627 : True := trivial
theorem PySem.W.Fast.tw2434307420431083389 : True := trivial
theorem PySem.W.Fast.tw18042827124160088520 : True := trivial
theorem PySem.W.Fast.tw16670329375170418537 : True := trivial
theorem PySem.W.Fast.tw4825265337572981289 : True := trivial
theorem PySem.W.Fast.tw17640704644472974778 : True := trivial
theorem PySem.W.Fast.tw7313100196108251386 : True := trivial
theorem PySem.W.Fast.tw16563740988951587065 : True := trivial
theorem PySem.W.Fast.tw11490922245162752502 : True := trivial
theorem PySem.W.Fast.tw13172583735469566450 : True := trivial
theorem PySem.W.Fast.tw4065451077651139360 : True := trivial
theorem PySem.W.Fast.tw15865822071028726393 : True := trivial
theorem PySem.W.Fast.tw4186607577099834884 : True := trivial
theorem PySem.W.Fast.tw12791139197400563494 : True := trivial
theorem PySem.W.Fast.tw3621453577083360788 : True := trivial
theorem PySem.W.Fast.tw18353469580970507091 : True := trivial
theorem PySem.W.Fast.tw1098758501571562192 : True := trivial
theorem PySem.W.Fast.tw13496964763452275789 : True := trivial
theorem PySem.W.Fast.tw7132939522519902689 : True := trivial
theorem PySem.W.Fast.tw12796263347152949603 : True := trivial
theorem PySem.W.Fast.tw4780864276272977053 : True := trivial
theorem PySem.W.Fast.tw9579081237755506359 : True := trivial
theorem PySem.W.Fast.tw11304975290989419283 : True := trivial
theorem PySem.W.Fast.tw2722798528868030902 : True := trivial
theorem PySem.W.Fast.tw15088696752683015188 : True := trivial
theorem PySem.W.Fast.tw16378172316027907391 : True := trivial
theorem PySem.W.Fast.tw12496563089537734958 : True := trivial
theorem PySem.W.Fast.tw4136759559188185520 : True := trivial
theorem PySem.W.Fast.tw12681802539951936671 : True := trivial
theorem PySem.W.Fast.tw12185700106639656054 : True := trivial
theorem PySem.W.Fast.tw657420082510306160 : True := trivial
theorem PySem.W.Fast.tw16900264653826076167 : True := trivial
theorem PySem.W.Fast.tw14064453702400432247 : True := trivial
theorem PySem.W.Fast.tw14879890780806511848 : True := trivial
theorem PySem.W.Fast.tw10224709429282407764 : True := trivial
theorem PySem.W.Fast.tw17136532057081384857 : True := trivial
theorem PySem.W.Fast.tw17143118678256865057 : True := trivial
theorem PySem.W.Fast.tw3259571728009875094 : True := trivial
theorem PySem.W.Fast.tw1834705405678485431 : True := trivial
theorem PySem.W.Fast.tw14104518711155983775 : True := trivial
theorem PySem.W.Fast.tw12357390071516853402 : True := trivial
theorem PySem.W.Fast.tw14824471037233993801 : True := trivial
theorem PySem.W.Fast.tw2328268655009650115 : True := trivial
theorem PySem.W.Fast.tw11209807745783279403 : True := trivial
theorem PySem.W.Fast.tw17451570877197138613 : True := trivial
theorem PySem.W.Fast.tw2638965788259295092 : True := trivial
theorem PySem.W.Fast.tw693426333496655027 : True := trivial
theorem PySem.W.Fast.tw6610985246020482329 : True := trivial
theorem PySem.W.Fast.tw14949543745443237906 : True := trivial
theorem PySem.W.Fast.tw5679833243610269641 : True := trivial
theorem PySem.W.Fast.tw12673124483503759424 : True := trivial
theorem PySem.W.Fast.tw8679544259982897030 : True := trivial
theorem PySem.W.Fast.tw16166464678177800867 : True := trivial
theorem PySem.W.Fast.tw3648844145250472502 : True := trivial
theorem PySem.W.Fast.tw15684440148037802595 : True := trivial
theorem PySem.W.Fast.tw5138476464492708287 : True := trivial
theorem PySem.W.Fast.tw100516433110298591 : True := trivial
theorem PySem.W.Fast.tw7418368373724913972 : True := trivial
theorem PySem.W.Fast.tw2542997118902288295 : True := trivial
theorem PySem.W.Fast.tw13029028838611095910 : True := trivial
theorem PySem.W.Fast.tw16727201550358998447 : True := trivial
theorem PySem.W.Fast.tw7598334283373911708 : True := trivial
theorem PySem.W.Fast.tw514441628137871227 : True := trivial
theorem PySem.W.Fast.tw5682882750212232531 : True := trivial
theorem PySem.W.Fast.tw4630809902863077518 : True := trivial
theorem PySem.W.Fast.tw6496305841555317034 : True := trivial
theorem PySem.W.Fast.tw1567412653521895903 : True := trivial
theorem PySem.W.Fast.tw17856113857420773448 : True := trivial
theorem PySem.W.Fast.tw10614900490275157930 : True := trivial
theorem PySem.W.Fast.tw2802867782029552385 : True := trivial
theorem PySem.W.Fast.tw3170590708948391560 : True := trivial
theorem PySem.W.Fast.tw11074536726252936926 : True := trivial
theorem PySem.W.Fast.tw4152385214349418733 : True := trivial
theorem PySem.W.Fast.tw4402887906352951391 : True := trivial
theorem PySem.W.Fast.tw8382021776512042277 : True := trivial
theorem PySem.W.Fast.tw15759026302022125288 : True := trivial
theorem PySem.W.Fast.tw8379891004218786462 : True := trivial
theorem PySem.W.Fast.tw12403533140148967569 : True := trivial
theorem PySem.W.Fast.tw6502540197858736101 : True := trivial
theorem PySem.W.Fast.tw987234872184349503 : True := trivial
theorem PySem.W.Fast.tw14082328042176309754 : True := trivial
theorem PySem.W.Fast.tw8117451939820250355 : True := trivial
theorem PySem.W.Fast.tw6915170257070897079 : True := trivial
theorem PySem.W.Fast.tw16692582118133379212 : True := trivial
theorem PySem.W.Fast.tw16763925389585891650 : True := trivial
theorem PySem.W.Fast.tw1551101964522771559 : True := trivial
theorem PySem.W.Fast.tw3328804648820914142 : True := trivial
theorem PySem.W.Fast.tw4178776950335303186 : True := trivial
theorem PySem.W.Fast.tw8295549512226613940 : True := trivial
theorem PySem.W.Fast.tw2497368355036070435 : True := trivial
theorem PySem.W.Fast.tw14896429100663585090 : True := trivial
theorem PySem.W.Fast.tw851177103996049351 : True := trivial
theorem PySem.W.Fast.tw13258196194503168905 : True := trivial
theorem PySem.W.Fast.tw14735670533628747727 : True := trivial
theorem PySem.W.Fast.tw2657215082873977517 : True := trivial
theorem PySem.W.Fast.tw17810155054358910672 : True := trivial
theorem PySem.W.Fast.tw5178585037660879006 : True := trivial
theorem PySem.W.Fast.tw6811697436159189913 : True := trivial
theorem PySem.W.Fast.tw10083006410948191820 : True := trivial
theorem PySem.W.Fast.tw16807357681102374830 : True := trivial
theorem PySem.W.Fast.tw14407842227246420976 : True := trivial
theorem PySem.W.Fast.tw1765802705883956130 : True := trivial
theorem PySem.W.Fast.tw14021369803253294299 : True := trivial
theorem PySem.W.Fast.tw2714817704687538395 : True := trivial
theorem PySem.W.Fast.tw12821101505046289942 : True := trivial
theorem PySem.W.Fast.tw2416620867706131014 : True := trivial
theorem PySem.W.Fast.tw18055363796351336948 : True := trivial
theorem PySem.W.Fast.tw46099240058852425 : True := trivial
theorem PySem.W.Fast.tw7958464255663971155 : True := trivial
theorem PySem.W.Fast.tw1689950633545266072 : True := trivial
theorem PySem.W.Fast.tw5820696209430787820 : True := trivial
theorem PySem.W.Fast.tw11594008248629436733 : True := trivial
theorem PySem.W.Fast.tw10601455290762661404 : True := trivial
theorem PySem.W.Fast.tw6685626635260349199 : True := trivial
theorem PySem.W.Fast.tw3044615308931668983 : True := trivial
theorem PySem.W.Fast.tw9495177715966300132 : True := trivial
theorem PySem.W.Fast.tw4625618785512349918 : True := trivial
theorem PySem.W.Fast.tw7658241333812137560 : True := trivial
theorem PySem.W.Fast.tw16625164099569179707 : True := trivial
theorem PySem.W.Fast.tw9392205239389415487 : True := trivial
theorem PySem.W.Fast.tw10947538219962181584 : True := trivial
theorem PySem.W.Fast.tw3841957147118569893 : True := trivial
theorem PySem.W.Fast.tw9782794115405449148 : True := trivial
theorem PySem.W.Fast.tw15858538147799224889 : True := trivial
theorem PySem.W.Fast.tw15204262915565935118 : True := trivial
theorem PySem.W.Fast.tw6158925426509976256 : True := trivial
theorem PySem.W.Fast.tw8044831995862189662 : True := trivial
theorem PySem.W.Fast.tw14838390397823437921 : True := trivial
theorem PySem.W.Fast.tw728013401924198860 : True := trivial
theorem PySem.W.Fast.tw4234393839477766024 : True := trivial
theorem PySem.W.Fast.tw316093867336332161 : True := trivial
theorem PySem.W.Fast.tw16987706650792275261 : True := trivial
theorem PySem.W.Fast.tw11131689655244799758 : True := trivial
theorem PySem.W.Fast.tw3898981993791619156 : True := trivial
theorem PySem.W.Fast.tw9315327088522913748 : True := trivial
theorem PySem.W.Fast.tw8251074639654329661 : True := trivial
theorem PySem.W.Fast.tw14648851188050621279 : True := trivial
theorem PySem.W.Fast.tw7108708450644770401 : True := trivial
theorem PySem.W.Fast.tw14528280604195925474 : True := trivial
theorem PySem.W.Fast.tw13773073151242230538 : True := trivial
theorem PySem.W.Fast.tw9437514365769408814 : True := trivial
theorem PySem.W.Fast.tw3612898189622603740 : True := trivial
theorem PySem.W.Fast.tw6827563768098207713 : True := trivial
theorem PySem.W.Fast.tw7733773321781937043 : True := trivial
theorem PySem.W.Fast.tw174505330308912227 : True := trivial
theorem PySem.W.Fast.tw8961336277357078560 : True := trivial
theorem PySem.W.Fast.tw9258727455694536429 : True := trivial
theorem PySem.W.Fast.tw15480975947099560086 : True := trivial
theorem PySem.W.Fast.tw17515620395016543985 : True := trivial
theorem PySem.W.Fast.tw3916948096448581551 : True := trivial
theorem PySem.W.Fast.tw6858224178428405319 : True := trivial
theorem PySem.W.Fast.tw7461815977958859238 : True := trivial
theorem PySem.W.Fast.tw16165582771308532094 : True := trivial
theorem PySem.W.Fast.tw5609708097628589302 : True := trivial
theorem PySem.W.Fast.tw1653876823295668884 : True := trivial
theorem PySem.W.Fast.tw11575322939041616735 : True := trivial
theorem PySem.W.Fast.tw16849243810292663166 : True := trivial
theorem PySem.W.Fast.tw15933507089201244983 : True := trivial
theorem PySem.W.Fast.tw14367624077098768662 : True := trivial
theorem PySem.W.Fast.tw7914228066279796222 : True := trivial
theorem PySem.W.Fast.tw9566477149392693756 : True := trivial
theorem PySem.W.Fast.tw11385129185984771620 : True := trivial
theorem PySem.W.Fast.tw9758830842705080696 : True := trivial
theorem PySem.W.Fast.tw11811380275393680872 : True := trivial
theorem PySem.W.Fast.tw11488827555556748311 : True := trivial
theorem PySem.W.Fast.tw14064009643804945638 : True := trivial
theorem PySem.W.Fast.tw17171292491079297767 : True := trivial
theorem PySem.W.Fast.tw17210169768319140887 : True := trivial
theorem PySem.W.Fast.tw18202809946991611992 : True := trivial
theorem PySem.W.Fast.tw4588721257698734143 : True := trivial
theorem PySem.W.Fast.tw13997335682289265385 : True := trivial
theorem PySem.W.Fast.tw11275737141163193359 : True := trivial
theorem PySem.W.Fast.tw9645562028666499610 : True := trivial
theorem PySem.W.Fast.tw16770272602450779717 : True := trivial
theorem PySem.W.Fast.tw15365074927353030847 : True := trivial
theorem PySem.W.Fast.tw14868854388915305110 : True := trivial
theorem PySem.W.Fast.tw14071560778399116636 : True := trivial
theorem PySem.W.Fast.tw9766044853341917649 : True := trivial
theorem PySem.W.Fast.tw10886288983197014988 : True := trivial
theorem PySem.W.Fast.tw12949846979298454905 : True := trivial
theorem PySem.W.Fast.tw7520116323782634699 : True := trivial
theorem PySem.W.Fast.tw11599742672330031981 : True := trivial
theorem PySem.W.Fast.tw5102548664771751701 : True := trivial
theorem PySem.W.Fast.tw1839988486385173682 : True := trivial
theorem PySem.W.Fast.tw3750745829846013016 : True := trivial
theorem PySem.W.Fast.tw356384114954420939 : True := trivial
theorem PySem.W.Fast.tw11445910121181487908 : True := trivial
theorem PySem.W.Fast.tw2660519183132235426 : True := trivial
theorem PySem.W.Fast.tw5170453849020723824 : True := trivial
theorem PySem.W.Fast.tw6337453003622211065 : True := trivial
theorem PySem.W.Fast.tw6103353172635810198 : True := trivial
theorem PySem.W.Fast.tw3177506818758897114 : True := trivial
theorem PySem.W.Fast.tw18051420997811297791 : True := trivial
theorem PySem.W.Fast.tw14745581411429876323 : True := trivial
theorem PySem.W.Fast.tw13267125885282807321 : True := trivial
theorem PySem.W.Fast.tw13911956226071546666 : True := trivial
theorem PySem.W.Fast.tw13931345624797199645 : True := trivial
theorem PySem.W.Fast.tw17802683418218295727 : True := trivial
theorem PySem.W.Fast.tw14174370647326109647 : True := trivial
theorem PySem.W.Fast.tw523549997799281366 : True := trivial
theorem PySem.W.Fast.tw6971769712600541841 : True := trivial
theorem PySem.W.Fast.tw1276922607577457781 : True := trivial
theorem PySem.W.Fast.tw17062127961284881364 : True := trivial
theorem PySem.W.Fast.tw15801128619832117356 : True := trivial
theorem PySem.W.Fast.tw13681547361556110506 : True := trivial
theorem PySem.W.Fast.tw264484751134534529 : True := trivial
theorem PySem.W.Fast.tw686073723710317466 : True := trivial
theorem PySem.W.Fast.tw4510055809483722094 : True := trivial
theorem PySem.W.Fast.tw2734887755674375869 : True := trivial
theorem PySem.W.Fast.tw2692655959935257018 : True := trivial
theorem PySem.W.Fast.tw15460838045793287017 : True := trivial
theorem PySem.W.Fast.tw6506373893244718140 : True := trivial
theorem PySem.W.Fast.tw5779996521123593963 : True := trivial
theorem PySem.W.Fast.tw14753222746309620403 : True := trivial
theorem PySem.W.Fast.tw7952088337463525676 : True := trivial
theorem PySem.W.Fast.tw18090152659362141974 : True := trivial
theorem PySem.W.Fast.tw11075014319853490389 : True := trivial
theorem PySem.W.Fast.tw16827926829448581768 : True := trivial
theorem PySem.W.Fast.tw6082369569300949873 : True := trivial
theorem PySem.W.Fast.tw8326993855774127714 : True := trivial
theorem PySem.W.Fast.tw3398936477126807886 : True := trivial
set_option maxRecDepth 100000 in
set_option maxHeartbeats 0 in
theorem PySem.Challenge.cw_neverwait_k19_refusals_alone_holds : PySem.Challenge.rw_neverwait_k19_refusals_alone.Holds := by
  w_on; o_law; k_head; (case hw => w_witness2)
  k_fill
  refine K19.walk (l := PySem.Challenge.rw_neverwait_k19_refusals_alone) (Pt := _) rfl rfl (fun w h Y => PySem.W.km_in_of Y) (fun w h Y => PySem.W.km_tabs_of Y) ?cd ?kt ?F
  case F =>
    intro w mg fa h KX G hmg
    refine' K19.all_mk (Pt := _) KX G hmg ?aC ?aB ?a_NoNet ?a_NoShape ?a_NoTie ?a_NoText ?a_NoHouse ?a_NoRanks ?a_NoStand ?a_NoBerth ?a_NoHanding ?a_NoPlan ?a_TooMany ?a_NoRow ?a_whole ?l_whole ?d_whole ?k_whole ?a_within ?l_within ?d_within ?k_within ?a_house ?l_house ?d_house ?k_house ?a_row ?l_row ?d_row ?k_row ?a_cties ?l_cties ?d_cties ?k_cties ?a_unl ?l_unl ?d_unl ?k_unl ?a_tie ?l_tie ?d_tie ?k_tie ?a_bal ?l_bal ?d_bal ?k_bal ?a_outs ?l_outs ?d_outs ?k_outs ?a_dist ?l_dist ?d_dist ?k_dist ?a_reach ?l_reach ?d_reach ?k_reach ?a_box ?l_box ?d_box ?k_box ?a_ring ?l_ring ?d_ring ?k_ring ?a_words ?l_words ?d_words ?k_words ?a_pairs ?l_pairs ?d_pairs ?k_pairs ?a_without ?l_without ?d_without ?k_without ?a_tied ?l_tied ?d_tied ?k_tied ?a_sides ?l_sides ?d_sides ?k_sides ?a_read ?l_read ?d_read ?k_read ?a_pot ?l_pot ?d_pot ?k_pot ?a_digit ?l_digit ?d_digit ?k_digit ?a_text ?l_text ?d_text ?k_text ?a_kinds ?l_kinds ?d_kinds ?k_kinds ?a_bare ?l_bare ?d_bare ?k_bare ?a_worded ?l_worded ?d_worded ?k_worded ?a_made ?l_made ?d_made ?k_made ?a_wrong ?l_wrong ?d_wrong ?k_wrong ?a_refd ?l_refd ?d_refd ?k_refd ?a_order ?l_order ?d_order ?k_order ?a_law ?l_law ?d_law ?k_law ?a_m_init ?i_m_init ?l_m_init ?d_m_init ?k_m_init ?a_m_many ?i_m_many ?l_m_many ?d_m_many ?k_m_many ?a_m_ties ?i_m_ties ?l_m_ties ?d_m_ties ?k_m_ties ?a_m_out ?i_m_out ?l_m_out ?d_m_out ?k_m_out ?a_m_check ?i_m_check ?l_m_check ?d_m_check ?k_m_check ?pg ?q_hd ?po ?sa ?mk ?kc ?nH ?nT ?nO ?nD ?z_isinstance ?z_int ?z_bool ?z_tuple ?z_list ?z_str ?z_set ?z_len ?z_range ?z_sorted ?z_any ?z_max ?z_min ?z_ValueError ?g_FEWEST_HOUSES ?g_MOST_HOUSES ?g_MOST_TIES_OUT ?g_SMALLEST_RING ?g_MOST_FIGURES ?eB ?e_NoNet ?e_NoShape ?e_NoTie ?e_NoText ?e_NoHouse ?e_NoRanks ?e_NoStand ?e_NoBerth ?e_NoHanding ?e_NoPlan ?e_TooMany ?e_NoRow ?ek ?q_cd
    (case aC => k_is)
    (case aB => k_is)
    (case a_NoNet => k_is)
    (case a_NoShape => k_is)
    (case a_NoTie => k_is)
    (case a_NoText => k_is)
    (case a_NoHouse => k_is)
    (case a_NoRanks => k_is)
    (case a_NoStand => k_is)
    (case a_NoBerth => k_is)
    (case a_NoHanding => k_is)
    (case a_NoPlan => k_is)
    (case a_TooMany => k_is)
    (case a_NoRow => k_is)
    (case a_whole => k_is)
    (case l_whole => k_is)
    (case d_whole => k_is)
    (case k_whole => k_is)
    (case a_within => k_is)
    (case l_within => k_is)
    (case d_within => k_is)
    (case k_within => k_is)
    (case a_house => k_is)
    (case l_house => k_is)
    (case d_house => k_is)
    (case k_house => k_is)
    (case a_row => k_is)
    (case l_row => k_is)
    (case d_row => k_is)
    (case k_row => k_is)
    (case a_cties => k_is)
    (case l_cties => k_is)
    (case d_cties => k_is)
    (case k_cties => k_is)
    (case a_unl => k_is)
    (case l_unl => k_is)
    (case d_unl => k_is)
    (case k_unl => k_is)
    (case a_tie => k_is)
    (case l_tie => k_is)
    (case d_tie => k_is)
    (case k_tie => k_is)
    (case a_bal => k_is)
    (case l_bal => k_is)
    (case d_bal => k_is)
    (case k_bal => k_is)
    (case a_outs => k_is)
    (case l_outs => k_is)
    (case d_outs => k_is)
    (case k_outs => k_is)
    (case a_dist => k_is)
    (case l_dist => k_is)
    (case d_dist => k_is)
    (case k_dist => k_is)
    (case a_reach => k_is)
    (case l_reach => k_is)
    (case d_reach => k_is)
    (case k_reach => k_is)
    (case a_box => k_is)
    (case l_box => k_is)
    (case d_box => k_is)
    (case k_box => k_is)
    (case a_ring => k_is)
    (case l_ring => k_is)
    (case d_ring => k_is)
    (case k_ring => k_is)
    (case a_words => k_is)
    (case l_words => k_is)
    (case d_words => k_is)
    (case k_words => k_is)
    (case a_pairs => k_is)
    (case l_pairs => k_is)
    (case d_pairs => k_is)
    (case k_pairs => k_is)
    (case a_without => k_is)
    (case l_without => k_is)
    (case d_without => k_is)
    (case k_without => k_is)
    (case a_tied => k_is)
    (case l_tied => k_is)
    (case d_tied => k_is)
    (case k_tied => k_is)
    (case a_sides => k_is)
    (case l_sides => k_is)
    (case d_sides => k_is)
    (case k_sides => k_is)
    (case a_read => k_is)
    (case l_read => k_is)
    (case d_read => k_is)
    (case k_read => k_is)
    (case a_pot => k_is)
    (case l_pot => k_is)
    (case d_pot => k_is)
    (case k_pot => k_is)
    (case a_digit => k_is)
    (case l_digit => k_is)
    (case d_digit => k_is)
    (case k_digit => k_is)
    (case a_text => k_is)
    (case l_text => k_is)
    (case d_text => k_is)
    (case k_text => k_is)
    (case a_kinds => k_is)
    (case l_kinds => k_is)
    (case d_kinds => k_is)
    (case k_kinds => k_is)
    (case a_bare => k_is)
    (case l_bare => k_is)
    (case d_bare => k_is)
    (case k_bare => k_is)
    (case a_worded => k_is)
    (case l_worded => k_is)
    (case d_worded => k_is)
    (case k_worded => k_is)
    (case a_made => k_is)
    (case l_made => k_is)
    (case d_made => k_is)
    (case k_made => k_is)
    (case a_wrong => k_is)
    (case l_wrong => k_is)
    (case d_wrong => k_is)
    (case k_wrong => k_is)
    (case a_refd => k_is)
    (case l_refd => k_is)
    (case d_refd => k_is)
    (case k_refd => k_is)
    (case a_order => k_is)
    (case l_order => k_is)
    (case d_order => k_is)
    (case k_order => k_is)
    (case a_law => k_is)
    (case l_law => k_is)
    (case d_law => k_is)
    (case k_law => k_is)
    (case a_m_init => k_is)
    (case i_m_init => k_is)
    (case l_m_init => k_is)
    (case d_m_init => k_is)
    (case k_m_init => k_is)
    (case a_m_many => k_is)
    (case i_m_many => k_is)
    (case l_m_many => k_is)
    (case d_m_many => k_is)
    (case k_m_many => k_is)
    (case a_m_ties => k_is)
    (case i_m_ties => k_is)
    (case l_m_ties => k_is)
    (case d_m_ties => k_is)
    (case k_m_ties => k_is)
    (case a_m_out => k_is)
    (case i_m_out => k_is)
    (case l_m_out => k_is)
    (case d_m_out => k_is)
    (case k_m_out => k_is)
    (case a_m_check => k_is)
    (case i_m_check => k_is)
    (case l_m_check => k_is)
    (case d_m_check => k_is)
    (case k_m_check => k_is)
    (case pg => k_is)
    (case q_hd => k_is)
    (case po => k_is)
    (case sa => k_is)
    (case mk => k_is)
    (case kc => k_is)
    (case nH => k_is)
    (case nT => k_is)
    (case nO => k_is)
    (case nD => k_is)
    (case z_isinstance => k_is)
    (case z_int => k_is)
    (case z_bool => k_is)
    (case z_tuple => k_is)
    (case z_list => k_is)
    (case z_str => k_is)
    (case z_set => k_is)
    (case z_len => k_is)
    (case z_range => k_is)
    (case z_sorted => k_is)
    (case z_any => k_is)
    (case z_max => k_is)
    (case z_min => k_is)
    (case z_ValueError => k_is)
    (case g_FEWEST_HOUSES => k_is)
    (case g_MOST_HOUSES => k_is)
    (case g_MOST_TIES_OUT => k_is)
    (case g_SMALLEST_RING => k_is)
    (case g_MOST_FIGURES => k_is)
    (case eB => exact ⟨by kernel_rfl, by k_is, by k_is, by k_is, by k_is, by k_is, by k_is, by kernel_rfl⟩)
    (case e_NoNet => exact ⟨by kernel_rfl, by k_is, by k_is, by k_is, by k_is, by k_is, by k_is, by kernel_rfl⟩)
    (case e_NoShape => exact ⟨by kernel_rfl, by k_is, by k_is, by k_is, by k_is, by k_is, by k_is, by kernel_rfl⟩)
    (case e_NoTie => exact ⟨by kernel_rfl, by k_is, by k_is, by k_is, by k_is, by k_is, by k_is, by kernel_rfl⟩)
    (case e_NoText => exact ⟨by kernel_rfl, by k_is, by k_is, by k_is, by k_is, by k_is, by k_is, by kernel_rfl⟩)
    (case e_NoHouse => exact ⟨by kernel_rfl, by k_is, by k_is, by k_is, by k_is, by k_is, by k_is, by kernel_rfl⟩)
    (case e_NoRanks => exact ⟨by kernel_rfl, by k_is, by k_is, by k_is, by k_is, by k_is, by k_is, by kernel_rfl⟩)
    (case e_NoStand => exact ⟨by kernel_rfl, by k_is, by k_is, by k_is, by k_is, by k_is, by k_is, by kernel_rfl⟩)
    (case e_NoBerth => exact ⟨by kernel_rfl, by k_is, by k_is, by k_is, by k_is, by k_is, by k_is, by kernel_rfl⟩)
    (case e_NoHanding => exact ⟨by kernel_rfl, by k_is, by k_is, by k_is, by k_is, by k_is, by k_is, by kernel_rfl⟩)
    (case e_NoPlan => exact ⟨by kernel_rfl, by k_is, by k_is, by k_is, by k_is, by k_is, by k_is, by kernel_rfl⟩)
    (case e_TooMany => exact ⟨by kernel_rfl, by k_is, by k_is, by k_is, by k_is, by k_is, by k_is, by kernel_rfl⟩)
    (case e_NoRow => exact ⟨by kernel_rfl, by k_is, by k_is, by k_is, by k_is, by k_is, by k_is, by kernel_rfl⟩)
    (case ek => kernel_rfl)
    (case q_cd => kernel_rfl)
  case kt => intro w; kernel_rfl
  case cd => intro w; kernel_rfl

