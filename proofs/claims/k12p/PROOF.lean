import PyProof.Rows.All
import Wide.All
import OpenK.AllK
import Wide.FinOn
import Lean
import PyProof.EqAt
import PyProof.EqKinds
import PyProof.TupleCall
import PySem.Challenge.RW_neverwait_k12_whole_distances
set_option Elab.async false
set_option linter.all false
set_option maxRecDepth 100000
set_option maxHeartbeats 8000000
namespace L2
open PySem PySem.Spec PyProof.Rows
abbrev Key := Sum Int Str
def keyIs : Key → Value → Bool
  | .inl k, v => Value.isInt k v
  | .inr x, v => Value.isStrOf x v
def keyH (w : World) : Key → Int
  | .inl k => hashInt k
  | .inr x => hashStr w x
theorem keyIs_shape : ∀ {k : Key} {v : Value}, keyIs k v = true → (∃ i t, k = Sum.inl i ∧ v = Value.int i t) ∨ (∃ x t, k = Sum.inr x ∧ v = Value.str x t)
  | .inl i, v, h => by
    obtain ⟨t, e⟩ := Value.isInt_shape (k := i) (v := v) h
    exact .inl ⟨i, t, rfl, e⟩
  | .inr x, v, h => by
    obtain ⟨t, e⟩ := Value.isStrOf_shape (x := x) (v := v) h
    exact .inr ⟨x, t, rfl, e⟩
theorem keyIs_int (i : Int) (t : Tok) : keyIs (.inl i) (.int i t) = true := by simp [keyIs, Value.isInt]
theorem keyIs_str (x : Str) (t : Tok) : keyIs (.inr x) (.str x t) = true := by simp [keyIs, Value.isStrOf]
theorem key_ll (a b : Int) : decide ((Sum.inl a : Key) = Sum.inl b) = (a == b) := by
  by_cases e : a = b
  · subst e; simp
  · have h : ¬ (Sum.inl a : Key) = Sum.inl b := fun q => e (Sum.inl.inj q)
    rw [decide_eq_false h]
    exact (beq_eq_false_iff_ne.mpr e).symm
theorem key_rr (a b : Str) : decide ((Sum.inr a : Key) = Sum.inr b) = decide (a = b) := by
  by_cases e : a = b
  · subst e; simp
  · have h : ¬ (Sum.inr a : Key) = Sum.inr b := fun q => e (Sum.inr.inj q)
    rw [decide_eq_false h, decide_eq_false e]
theorem key_lr (a : Int) (b : Str) : decide ((Sum.inl a : Key) = Sum.inr b) = false := decide_eq_false (fun q => nomatch q)
theorem key_rl (a : Str) (b : Int) : decide ((Sum.inr a : Key) = Sum.inl b) = false := decide_eq_false (fun q => nomatch q)
def mixKind (prog : Program) (w : World) : PySem.KeyKind prog w Key where
  is := keyIs
  hash := keyH w
  inj := fun v a b ha hb => by
    rcases keyIs_shape ha with ⟨i, t, rfl, rfl⟩ | ⟨x, t, rfl, rfl⟩
    · rcases keyIs_shape hb with ⟨j, u, rfl, e⟩ | ⟨y, u, rfl, e⟩
      · injection e with e1 _; rw [e1]
      · exact nomatch e
    · rcases keyIs_shape hb with ⟨j, u, rfl, e⟩ | ⟨y, u, rfl, e⟩
      · exact nomatch e
      · injection e with e1 _; rw [e1]
  byValue := fun k v h => by
    rcases keyIs_shape h with ⟨i, t, rfl, rfl⟩ | ⟨x, t, rfl, rfl⟩ <;> rfl
  pyHash := fun hv h => by
    rcases keyIs_shape hv with ⟨i, t, rfl, rfl⟩ | ⟨x, t, rfl, rfl⟩
    · exact wpAny_pyHash_int h
    · exact wpAny_pyHash_str h
  eqBool := fun hu hv h => by
    rcases keyIs_shape hu with ⟨i, t, rfl, rfl⟩ | ⟨x, t, rfl, rfl⟩
    · rcases keyIs_shape hv with ⟨j, u, rfl, rfl⟩ | ⟨y, u, rfl, rfl⟩
      · rw [key_ll] at h; exact wpAny_eqBool_int h
      · rw [key_lr] at h; exact SeqAt.EqAt.int_str i t y u _ _ _ _ h
    · rcases keyIs_shape hv with ⟨j, u, rfl, rfl⟩ | ⟨y, u, rfl, rfl⟩
      · rw [key_rl] at h; exact SeqAt.EqAt.str_int x t j u _ _ _ _ h
      · rw [key_rr] at h; exact wpAny_eqBool_str h
  «strs» := fun k x t v h => by
    rcases keyIs_shape h with ⟨i, u, rfl, e⟩ | ⟨y, u, rfl, e⟩
    · exact nomatch e
    · injection e with e1 _
      subst e1
      cases v <;> rfl
theorem mixKind_int (prog : Program) (w : World) (i : Int) (t : Tok) : (mixKind prog w).is (.inl i) (.int i t) = true := keyIs_int i t
theorem mixKind_str (prog : Program) (w : World) (x : Str) (t : Tok) : (mixKind prog w).is (.inr x) (.str x t) = true := keyIs_str x t
end L2
namespace L2
open PySem PySem.Spec PyProof.Rows
inductive V where
  | non | bl (b : Bool) | int (i : Int) | str (x : Str) | byt (b : Array UInt8) | flt (b : UInt64) | ref (a : Addr) | ty (n : String)
  deriving DecidableEq
def RelV : V → Value → Prop
  | .non, u => u = Value.none
  | .bl b, u => u = Value.bool b
  | .int i, u => ∃ t, u = Value.int i t
  | .str x, u => ∃ t, u = Value.str x t
  | .byt b, u => ∃ t, u = Value.bytes b t
  | .flt b, u => ∃ t, u = Value.float b t
  | .ref a, u => u = Value.ref a
  | .ty n, u => u = Value.type n
abbrev Vals : List V → List Value → Prop := Paired RelV
theorem Vals.length {xs : List V} {us : List Value} (r : Vals xs us) : xs.length = us.length := Paired.length r
theorem Vals.get : ∀ {xs : List V} {us : List Value} {i : Nat} {x : V}, Vals xs us → xs[i]? = some x → ∃ u, us[i]? = some u ∧ RelV x u
  | _, _, _, _, .nil, e => by simp at e
  | _, _, 0, _, .cons r _, e => by simp at e; subst e; exact ⟨_, rfl, r⟩
  | _, _, i + 1, x, .cons _ t, e => by
    obtain ⟨u, h1, h2⟩ := Vals.get (i := i) (x := x) t (by simpa using e)
    exact ⟨u, by simpa using h1, h2⟩
theorem Vals.set {x : V} {u : Value} (r : RelV x u) : ∀ {xs : List V} {us : List Value} (i : Nat), Vals xs us → Vals (xs.set i x) (us.set i u)
  | _, _, _, .nil => .nil
  | _, _, 0, .cons _ t => .cons r t
  | _, _, i + 1, .cons q t => .cons q (Vals.set r i t)
theorem Vals.append : ∀ {xs ys : List V} {us ws : List Value}, Vals xs us → Vals ys ws → Vals (xs ++ ys) (us ++ ws)
  | _, _, _, _, .nil, s => s
  | _, _, _, _, .cons r t, s => .cons r (Vals.append t s)
theorem Vals.take : ∀ {xs : List V} {us : List Value} (n : Nat), Vals xs us → Vals (xs.take n) (us.take n)
  | _, _, 0, _ => .nil
  | _, _, _ + 1, .nil => .nil
  | _, _, n + 1, .cons r t => .cons r (Vals.take n t)
theorem Vals.drop : ∀ {xs : List V} {us : List Value} (n : Nat), Vals xs us → Vals (xs.drop n) (us.drop n)
  | _, _, 0, r => r
  | _, _, _ + 1, .nil => .nil
  | _, _, n + 1, .cons _ t => Vals.drop n t
def RelO : Option V → Option Value → Prop
  | some v, some u => RelV v u
  | none, none => True
  | _, _ => False
def KV {κ : Type} : List (κ × V) → List (κ × Value) → Prop := Paired fun (p : κ × V) (q : κ × Value) => p.1 = q.1 ∧ RelV p.2 q.2
def kV : Key → V
  | .inl i => .int i
  | .inr x => .str x
inductive HO where
  | lst (xs : List V)
  | tup (xs : List V)
  | dK (kvs : List (Key × V)) | dT (kvs : List (List Key × V))
  | set (S : Int → Bool) (n : Nat)
  | ins (C dx : Addr) (fs : List (Str × V))
  | own (x : Addr)
  | xd (fs : List (Str × V))
  | met (f x : Addr)
  | rng (lo hi : Int)
  | frz (o : Obj) (u : HO)
  | tbl (ps : Array Value)
  | ext (φ : Heap → Prop)
abbrev Hp := Addr → Option HO
def upd (H : Hp) (a : Addr) (o : HO) : Hp := fun b => if b = a then some o else H b
theorem upd_same {H : Hp} {a : Addr} {o : HO} : upd H a o a = some o := by unfold upd; rw [if_pos rfl]
theorem upd_ne {H : Hp} {a b : Addr} {o : HO} (h : b ≠ a) : upd H a o b = H b := by unfold upd; rw [if_neg h]
theorem upd_upd {H : Hp} {a : Addr} {o u : HO} : upd (upd H a o) a u = upd H a u := by
  funext b; unfold upd; split <;> rfl
theorem ne_of {H : Hp} {a b : Addr} {o u : HO} (h : H a = some o) (h' : H b = some u) (d : o ≠ u) : a ≠ b := by
  intro e; subst e; rw [h] at h'; exact d (Option.some.inj h')
theorem ne_of_none {H : Hp} {a b : Addr} {o : HO} (h : H a = some o) (h' : H b = none) : a ≠ b := by
  intro e; subst e; rw [h] at h'; cases h'
section
variable (P : Program) (w : World)
def ObjOk (H : Hp) (h : Heap) (a : Addr) : HO → Prop
  | .lst xs => xs.length ≤ sizeLine ∧ ∃ (its : List Value) (n : Nat), Vals xs its ∧ h.get? a = some { cls := .type "list", data := .seq its.toArray n }
  | .tup xs => xs.length ≤ sizeLine ∧ ∃ its : List Value, Vals xs its ∧ IsTup h a its.toArray
  | .dK kvs => kvs.length ≤ sizeLine ∧ (a == sysModules) = false ∧ ∃ vs, KV kvs vs ∧ h.DictOf (mixKind P w) a vs
  | .dT kvs => kvs.length ≤ sizeLine ∧ (a == sysModules) = false ∧ ∃ xs : List (List Key × Addr × Value),
      Paired (fun (p : List Key × V) (q : List Key × Addr × Value) => p.1 = q.1 ∧ H q.2.1 = some (.tup (p.1.map kV)) ∧ RelV p.2 q.2.2) kvs xs ∧
      ∃ o es ep, h.get? a = some o ∧ o.ExactDict ∧ o.data = .dict es ep ∧ es.toList = xs.map (entryOfKey (tupleKind (mixKind P w))) ∧ (xs.map (·.1)).Nodup
  | .set S n => h.SetOf (intKind P w) a S n
  | .ins C dx fs => H dx = some (.own a) ∧ fs.length ≤ 1000 ∧ dx ≠ a ∧ h.get? a = some (PySem.W.instObj C dx) ∧
      ∃ mA, h.Ns1 dx mA ∧ (∀ f, RelO (fs.lookup f) (mA f)) ∧ PySem.Within mA (fs.map (·.1))
  | .own _ => ∃ o, h.get? a = some o
  | .xd fs => ∃ mA, h.Ns1 a mA ∧ ∀ f, RelO (fs.lookup f) (mA f)
  | .rng lo hi => ∃ t u v, h.get? a = some { cls := .type "range", data := .fields #[.int lo t, .int hi u, .int 1 v] }
  | .frz o u => h.get? a = some o ∧ ObjOk H h a u
  | .tbl ps => h.get? a = some { cls := .none, data := .fields ps }
  | .met f x => h.get? a = some (PySem.W.methodObj (.ref f) (.ref x))
  | .ext φ => φ h ∧ (∃ o, h.get? a = some o) ∧ ∀ h1 h2 : Heap, φ h1 → (∀ o, h1.get? a = some o → h2.get? a = some o) → φ h2
def HOk (H : Hp) (h : Heap) : Prop := ∀ a o, H a = some o → ObjOk P w H h a o
end
section
variable {P : Program} {w : World} {H H' : Hp} {h h' : Heap} {a : Addr} {o : HO}
theorem ObjOk.lt (x : ObjOk P w H h a o) : a < h.objs.size := by
  cases o with
  | lst xs => obtain ⟨_, _, _, _, e⟩ := x; exact Heap.lt_size e
  | tup xs => obtain ⟨_, _, _, p⟩ := x; exact p.lt
  | dK kvs => obtain ⟨_, _, _, _, o, _, _, e, _⟩ := x; exact Heap.lt_size e
  | dT kvs => obtain ⟨_, _, _, _, o, _, _, e, _⟩ := x; exact Heap.lt_size e
  | set S n => obtain ⟨o, _, _, _, e, _⟩ := x; exact Heap.lt_size e
  | ins C dx fs => obtain ⟨_, _, _, e, _⟩ := x; exact Heap.lt_size e
  | own y => obtain ⟨_, e⟩ := x; exact Heap.lt_size e
  | xd fs => obtain ⟨_, ⟨_, _, _, e, _⟩, _⟩ := x; exact Heap.lt_size e
  | rng lo hi => obtain ⟨_, _, _, e⟩ := x; exact Heap.lt_size e
  | frz ob u => obtain ⟨e, _⟩ := x; exact Heap.lt_size e
  | tbl ps => exact Heap.lt_size (show h.get? a = some _ from x)
  | met f y => exact Heap.lt_size (show h.get? a = some _ from x)
  | ext φ => obtain ⟨_, ⟨_, e⟩, _⟩ := x; exact Heap.lt_size e
theorem Paired.mapP {α β : Type} {F G : α → β → Prop} : ∀ {l₁ : List α} {l₂ : List β}, Paired F l₁ l₂ → (∀ a b, F a b → G a b) → Paired G l₁ l₂
  | _, _, .nil, _ => .nil
  | _, _, .cons r t, f => .cons (f _ _ r) (Paired.mapP t f)
theorem ObjOk.stay (x : ObjOk P w H h a o) (k : ∀ b u, (b = a ∨ H b = some (.own a)) → h.get? b = some u → h'.get? b = some u)
    (ho : ∀ b, H b = some (.own a) → H' b = some (.own a)) (ht : ∀ b xs, H b = some (.tup xs) → H' b = some (.tup xs)) : ObjOk P w H' h' a o := by
  induction o with
  | lst xs => obtain ⟨z, its, n, r, e⟩ := x; exact ⟨z, its, n, r, k _ _ (.inl rfl) e⟩
  | tup xs => obtain ⟨z, its, r, ob, e, c⟩ := x; exact ⟨z, its, r, ob, k _ _ (.inl rfl) e, c⟩
  | dK kvs => obtain ⟨z, y, vs, r, ob, es, ep, e, c⟩ := x; exact ⟨z, y, vs, r, ob, es, ep, k _ _ (.inl rfl) e, c⟩
  | dT kvs =>
    obtain ⟨z, y, xs, r, ob, es, ep, e, c⟩ := x
    exact ⟨z, y, xs, Paired.mapP r fun p q z => ⟨z.1, ht _ _ z.2.1, z.2.2⟩, ob, es, ep, k _ _ (.inl rfl) e, c⟩
  | set S n => obtain ⟨ob, es, ep, t, e, c⟩ := x; exact ⟨ob, es, ep, t, k _ _ (.inl rfl) e, c⟩
  | ins C dx fs =>
    obtain ⟨d, z, ne, e, mA, ⟨od, es, ep, e2, c⟩, r⟩ := x
    exact ⟨ho _ d, z, ne, k _ _ (.inl rfl) e, mA, ⟨od, es, ep, k _ _ (.inr d) e2, c⟩, r⟩
  | own y => obtain ⟨ob, e⟩ := x; exact ⟨ob, k _ _ (.inl rfl) e⟩
  | xd fs => obtain ⟨mA, ⟨od, es, ep, e, c⟩, r⟩ := x; exact ⟨mA, ⟨od, es, ep, k _ _ (.inl rfl) e, c⟩, r⟩
  | rng lo hi => obtain ⟨t, u, v, e⟩ := x; exact ⟨t, u, v, k _ _ (.inl rfl) e⟩
  | frz ob u ih => obtain ⟨e, q⟩ := x; exact ⟨k _ _ (.inl rfl) e, ih q⟩
  | tbl ps =>
    have e : h.get? a = some { cls := .none, data := .fields ps } := x
    show h'.get? a = some { cls := .none, data := .fields ps }
    exact k a _ (.inl rfl) e
  | met f y =>
    have e : h.get? a = some (PySem.W.methodObj (.ref f) (.ref y)) := x
    show h'.get? a = some (PySem.W.methodObj (.ref f) (.ref y))
    exact k a _ (.inl rfl) e
  | ext φ => obtain ⟨p, ⟨o, e⟩, st⟩ := x; exact ⟨st _ _ p fun o q => k _ _ (.inl rfl) q, ⟨o, k _ _ (.inl rfl) e⟩, st⟩
theorem HOk.lt (x : HOk P w H h) (e : H a = some o) : a < h.objs.size := (x a o e).lt
theorem HOk.fresh (x : HOk P w H h) (e : h.objs.size ≤ a) : H a = none := by
  cases q : H a with
  | none => rfl
  | some u => exact absurd (Nat.lt_of_lt_of_le (x.lt q) e) (Nat.lt_irrefl _)
theorem HOk.kept (x : HOk P w H h) (k : ∀ b u, h.get? b = some u → h'.get? b = some u) : HOk P w H h' := fun a o e =>
  (x a o e).stay (fun b u _ q => k b u q) (fun _ q => q) fun _ _ q => q
theorem HOk.laid (x : HOk P w H h) (k : ∀ b u, h.get? b = some u → h'.get? b = some u) (hp : h.objs.size ≤ a) (new : ObjOk P w (upd H a o) h' a o) : HOk P w (upd H a o) h' := fun b u e => by
  have hn := x.fresh hp
  by_cases hb : b = a
  · subst hb; rw [upd_same] at e; cases e; exact new
  · rw [upd_ne hb] at e
    exact (x b u e).stay (fun c v _ q => k c v q) (fun c q => by rw [upd_ne (ne_of_none q hn)]; exact q) fun c xs q => by rw [upd_ne (ne_of_none q hn)]; exact q
end
def Rd (H : Hp) (a : Addr) (u : HO) : Prop := H a = some u ∨ ∃ o, H a = some (.frz o u)
theorem Rd.ok {P : Program} {w : World} {H : Hp} {h : Heap} {a : Addr} {u : HO} (r : Rd H a u) (x : HOk P w H h) : ObjOk P w H h a u := by
  rcases r with r | ⟨o, r⟩
  · exact x a u r
  · obtain ⟨_, q⟩ := x a _ r
    exact q
def Mut : Option HO → Prop
  | some (.lst _) => True
  | some (.dK _) => True
  | some (.dT _) => True
  | some (.set _ _) => True
  | some (.ins _ _ _) => True
  | some (.ext _) => True
  | _ => False
section
variable {P : Program} {w : World} {H : Hp} {h h' : Heap} {x e : Addr} {o' : HO}
theorem HOk.write (ok : HOk P w H h) (mu : Mut (H x)) (he : e = x ∨ H e = some (.own x)) (k : ∀ b u, b ≠ e → h.get? b = some u → h'.get? b = some u) (heo : ∃ u, h'.get? e = some u)
    (new : ObjOk P w (upd H x o') h' x o') : HOk P w (upd H x o') h' := fun b u q => by
  have nown : ∀ c y, H c = some (.own y) → c ≠ x := fun c y r z => by subst z; rw [r] at mu; exact mu
  have ntup : ∀ c xs, H c = some (.tup xs) → c ≠ x := fun c xs r z => by subst z; rw [r] at mu; exact mu
  by_cases hb : b = x
  · subst hb; rw [upd_same] at q; cases q; exact new
  · rw [upd_ne hb] at q
    by_cases hbe : b = e
    · have q' : H b = some (.own x) := by
        rcases he with z | z
        · exact absurd (hbe.trans z) hb
        · rw [hbe]; exact z
      rw [q] at q'; cases q'
      obtain ⟨v, hv⟩ := heo
      exact ⟨v, by rw [hbe]; exact hv⟩
    · refine (ok b u q).stay (fun c v hc r => k c v ?_ r) (fun c r => by rw [upd_ne (nown c b r)]; exact r) fun c xs r => by rw [upd_ne (ntup c xs r)]; exact r
      rcases hc with rfl | hc
      · exact hbe
      · rintro rfl
        rcases he with z | z
        · exact nown c b hc z
        · rw [hc] at z; cases z; exact hb rfl
end
structure Un (fs ex : List Addr) (H H' : Hp) (h h' : Heap) : Prop where
  keep : ∀ b o, h.get? b = some o → H b = none → b ∉ fs → b ∉ ex → h'.get? b = some o
  slot : ∀ b o, h.get? b = some o → H b = none → b ∈ fs → b ∉ ex → ∃ sl, h'.get? b = some { o with slots := sl }
  free : ∀ b o, h.get? b = some o → H b = none → b ∉ ex → H' b = none
  there : ∀ b o, h.get? b = some o → b ∉ ex → ∃ o', h'.get? b = some o'
  tups : ∀ b xs, H b = some (.tup xs) → H' b = some (.tup xs)
  frzs : ∀ b o u, H b = some (.frz o u) → H' b = some (.frz o u)
  tbls : ∀ b ps, H b = some (.tbl ps) → ∃ more, H' b = some (.tbl (ps ++ more))
section
variable {fs fs' ex ex' : List Addr} {H H1 H2 : Hp} {h h1 h2 h' : Heap} {a x e : Addr} {o : HO}
theorem Un.any (u : Un fs ex H H1 h h1) {b : Addr} {ob : Obj} (q : h.get? b = some ob) (n : H b = none) (hx : b ∉ ex) : ∃ sl, h1.get? b = some { ob with slots := sl } := by
  by_cases hb : b ∈ fs
  · exact u.slot b ob q n hb hx
  · exact ⟨ob.slots, u.keep b ob q n hb hx⟩
theorem Un.kept (k : ∀ b u, h.get? b = some u → h'.get? b = some u) : Un fs ex H H h h' :=
  ⟨fun b ob q _ _ _ => k b ob q, fun b ob q _ _ _ => ⟨ob.slots, k b ob q⟩, fun _ _ _ n _ => n, fun b ob q _ => ⟨ob, k b ob q⟩, fun _ _ q => q, fun _ _ _ q => q, fun _ ps q => ⟨#[], by rw [q]; simp⟩⟩
theorem Un.refl : Un fs ex H H h h := Un.kept fun _ _ q => q
theorem Un.laid (k : ∀ b u, h.get? b = some u → h'.get? b = some u) (hp : h.objs.size ≤ a) (hn : H a = none) : Un fs ex H (upd H a o) h h' where
  keep := fun b u q _ _ _ => k b u q
  slot := fun b u q _ _ _ => ⟨u.slots, k b u q⟩
  free := fun b u q n _ => by rw [upd_ne (Nat.ne_of_lt (Nat.lt_of_lt_of_le (Heap.lt_size q) hp))]; exact n
  there := fun b u q _ => ⟨u, k b u q⟩
  tups := fun b xs q => by rw [upd_ne (ne_of_none q hn)]; exact q
  frzs := fun b u xs q => by rw [upd_ne (ne_of_none q hn)]; exact q
  tbls := fun b ps q => ⟨#[], by rw [upd_ne (ne_of_none q hn), q]; simp⟩
theorem Un.write (mu : Mut (H x)) (he : e = x ∨ H e = some (.own x)) (k : ∀ b u, b ≠ e → h.get? b = some u → h'.get? b = some u) (heo : ∃ u, h'.get? e = some u) : Un fs ex H (upd H x o) h h' := by
  have hx : ∀ b, H b = none → b ≠ x := fun b n z => by subst z; rw [n] at mu; exact mu
  have hb : ∀ b, H b = none → b ≠ e := fun b n z => by
    subst z
    rcases he with r | r
    · exact hx b n r
    · rw [n] at r; cases r
  have hm : ∀ b u, H b = some u → ¬ Mut (some u) → b ≠ x := fun b u q nm z => by subst z; rw [q] at mu; exact nm mu
  refine ⟨fun b u q n _ _ => k b u (hb b n) q, fun b u q n _ _ => ⟨u.slots, k b u (hb b n) q⟩, fun b u q n _ => by rw [upd_ne (hx b n)]; exact n, fun b u q _ => ?_,
    fun b xs q => by rw [upd_ne (hm b _ q fun z => z)]; exact q, fun b u xs q => by rw [upd_ne (hm b _ q fun z => z)]; exact q, fun b ps q => ⟨#[], by rw [upd_ne (hm b _ q fun z => z), q]; simp⟩⟩
  by_cases hbe : b = e
  · subst hbe; exact heo
  · exact ⟨u, k b u hbe q⟩
end
def trk (h : Heap) (H : Hp) : List Addr := (List.range h.objs.size).filter fun a => (H a).isSome
def hidT (h : Heap) (H : Hp) : Heap := PySem.W.hideAll h (trk h H)
theorem hidT_size (h : Heap) (H : Hp) : (hidT h H).objs.size = h.objs.size := PySem.W.hideAll_size _ _
theorem hidT_get {h : Heap} {H : Hp} {b : Addr} {o : Obj} (e : h.get? b = some o) (n : H b = none) : (hidT h H).get? b = some o :=
  PySem.W.hideAll_get _ e fun hm => by
    have q : (H b).isSome = true := (List.mem_filter.mp hm).2
    rw [n] at q; simp at q
theorem of_hidT {h : Heap} {H : Hp} {b : Addr} {o : Obj} (e : (hidT h H).get? b = some o) : h.get? b = some o ∧ H b = none := by
  have e' : h.get? b = some o := PySem.W.of_hideAll (trk h H) e
  refine ⟨e', ?_⟩
  cases q : H b with
  | none => rfl
  | some x =>
    have hm : b ∈ trk h H := List.mem_filter.mpr ⟨List.mem_range.mpr (Heap.lt_size e'), by simp [q]⟩
    have z : (hidT h H).get? b = none := PySem.W.hideAll_none (trk h H) hm
    rw [z] at e; cases e
def allNews (g h : Heap) (L : Addr) : List (Addr × Obj) := (List.range h.objs.size).filterMap fun a => if a = L ∨ (g.get? a).isSome = true then none else (h.get? a).map fun o => (a, o)
theorem mem_allNews {g h : Heap} {L a : Addr} {o : Obj} (h1 : a ≠ L) (h2 : g.get? a = none) (h3 : h.get? a = some o) : (a, o) ∈ allNews g h L :=
  List.mem_filterMap.mpr ⟨a, List.mem_range.mpr (Heap.lt_size h3), by simp [h1, h2, h3]⟩
theorem of_mem_allNews {g h : Heap} {L : Addr} {p : Addr × Obj} (hp : p ∈ allNews g h L) : p.1 ≠ L ∧ g.get? p.1 = none ∧ h.get? p.1 = some p.2 := by
  obtain ⟨b, _, e⟩ := List.mem_filterMap.mp hp
  split at e
  · cases e
  · rename_i hn
    cases q : h.get? b with
    | none => rw [q] at e; simp at e
    | some u =>
      rw [q] at e
      simp only [Option.map_some, Option.some.injEq] at e
      subst e
      refine ⟨fun z => hn (.inl z), ?_, q⟩
      show g.get? b = none
      cases r : g.get? b with
      | none => rfl
      | some v => exact (hn (.inr (by simp [r]))).elim
theorem news_all {g h : Heap} {L : Addr} : News g L h (allNews g h L) := fun p hp => let ⟨a, b, c⟩ := of_mem_allNews hp; ⟨c, a, b⟩
end L2
namespace L2
open PySem PySem.Spec PyProof.Rows
structure Mod (K : PySem.W.Frag) (mg : Str → Option Value) (base : Heap) : Prop where
  kin : K.In base
  glob : base.Ns mainGlobals mg
  blt : ∃ mb, base.Ns builtinsNs mb ∧ ∀ x : Str, x ≠ "__name__" → mb x = bootBuiltins x
  nolimit : base.NoLimit
structure Cx where
  prog : Program
  w : World
  K : PySem.W.Frag
  mg : Str → Option Value
  base : Heap
  A : Around
  N : List Str
  s₀ : Shared
  H₀ : Hp
  env : Env
  outer : List Env
  stack : List Env
  ex : List Addr
  fn : Str → Bool
  calm : Bool
  pn : List (Addr × Obj)
  xe : Value → Shared → Prop
def frs (l : List Env) : List Addr := l.filterMap (·.frame)
abbrev Cx.fs (X : Cx) : List Addr := frs X.outer
def Vis (sc : Scope) (x : Str) : Prop := sc.names.lookup x = some .local ∨ sc.names.lookup x = some .cell ∨ sc.names.lookup x = some .free
def Loc (sc : Scope) (x : Str) : Prop := sc.names.lookup x = some .local ∨ sc.names.lookup x = some .cell
def Look (env : Env) (h : Heap) (m : Str → Option Value) (x : Str) (u : Value) : Prop :=
  (env.kindOf x = some .local ∧ m x = some u) ∨ ((env.kindOf x = some .cell ∨ env.kindOf x = some .free) ∧ ∃ c, env.cells.lookup x = some c ∧ h.IsCell c (some u))
structure Cx.Ok (X : Cx) : Prop where
  mod : Mod X.K X.mg X.base
  kind : X.env.scope.kind = .function
  glob : X.env.globals = mainGlobals
  blt : X.env.builtins = builtinsNs
  above : X.s₀.heap.objs.size ≤ X.env.locals
  inj : ∀ x y c, X.env.cells.lookup x = some c → X.env.cells.lookup y = some c → x = y
  has : ∀ x, (X.env.kindOf x = some .cell ∨ X.env.kindOf x = some .free) → ∃ c, X.env.cells.lookup x = some c
  cab : ∀ x c, X.fn x = true → X.env.cells.lookup x = some c → X.s₀.heap.objs.size ≤ c
  hd : X.calm = true → X.A.handled = none
  frames : X.A.frames = some X.stack
  stk : X.stack = X.outer ∨ (X.stack = X.env :: X.outer ∧ X.env.frame = some X.env.locals)
  exf : ∀ b ∈ X.ex, b ≠ X.env.locals ∧ ∀ x c, X.env.cells.lookup x = some c → c ≠ b
  bs : ∀ b o, X.base.get? b = some o → X.s₀.heap.get? b = some o ∧ X.H₀ b = none
  bsz : X.base.objs.size ≤ X.s₀.heap.objs.size
  noex : ∀ b o, X.base.get? b = some o → b ∉ X.ex
  exfs : ∀ b ∈ X.ex, b ∉ X.fs
  funs : X.s₀.heap.FunFrames X.base X.outer
  frf : ∀ b ∈ X.fs, X.H₀ b = none
structure Inv (X : Cx) (pins : List (Addr × Obj)) (σ : List (Option V)) (H : Hp) (s : Shared) : Prop where
  ok : X.Ok
  os : s.os = X.s₀.os
  bare : AllBare s.gens
  base : Un X.fs X.ex X.H₀ H X.s₀.heap s.heap
  loc : ∃ m, s.heap.Ns X.env.locals m ∧ ∀ (i : Nat) (x : Str) (v : V), X.N[i]? = some x → σ[i]? = some (some v) → Vis X.env.scope x → ∃ u, RelV v u ∧ Look X.env s.heap m x u
  cell : ∀ x c, X.env.cells.lookup x = some c → ∃ v, s.heap.IsCell c v
  free : H X.env.locals = none
  freeC : ∀ x c, X.env.cells.lookup x = some c → H c = none
  pin : ∀ p ∈ X.pn ++ pins, s.heap.get? p.1 = some p.2 ∧ H p.1 = none ∧ p.1 ≠ X.env.locals ∧ p.1 ∉ X.fs ∧ ∀ v, p.2.data ≠ .cell v
  hok : HOk X.prog X.w H s.heap
  len : σ.length = X.N.length
section
variable {X : Cx} {pins : List (Addr × Obj)} {σ : List (Option V)} {H H' : Hp} {s : Shared} {h' : Heap}
theorem Cx.Ok.nofr (ok : X.Ok) {b : Addr} {o : Obj} (e : X.base.get? b = some o) : b ∉ X.fs := fun hb => by
  have := (ok.funs.mem hb).1
  rw [e] at this; cases this
theorem Inv.bs (I : Inv X pins σ H s) : ∀ b o, X.base.get? b = some o → s.heap.get? b = some o ∧ H b = none := fun b o e =>
  ⟨I.base.keep b o (I.ok.bs b o e).1 (I.ok.bs b o e).2 (I.ok.nofr e) (I.ok.noex b o e), I.base.free b o (I.ok.bs b o e).1 (I.ok.bs b o e).2 (I.ok.noex b o e)⟩
theorem Inv.bk (I : Inv X pins σ H s) : ∀ b o, X.base.get? b = some o → s.heap.get? b = some o := fun b o e => (I.bs b o e).1
theorem Inv.mod (I : Inv X pins σ H s) : Mod X.K X.mg X.base := I.ok.mod
theorem Inv.kIn (I : Inv X pins σ H s) : X.K.In s.heap := I.ok.mod.kin.keeps I.bk
theorem Inv.fr (I : Inv X pins σ H s) : ∃ m, Fr X.base X.env.locals s.heap m :=
  let ⟨m, hn, _⟩ := I.loc
  ⟨m, hn, I.bk, Nat.le_trans I.ok.bsz I.ok.above⟩
theorem Inv.lt (I : Inv X pins σ H s) : X.env.locals < s.heap.objs.size := let ⟨_, hn, _⟩ := I.loc; hn.lt
theorem Inv.sz (I : Inv X pins σ H s) : X.s₀.heap.objs.size ≤ s.heap.objs.size := Nat.le_trans I.ok.above (Nat.le_of_lt I.lt)
theorem Inv.nofs (I : Inv X pins σ H s) {a : Addr} (h : s.heap.objs.size ≤ a) : a ∉ X.fs := fun hb => by
  obtain ⟨_, o, ho, _⟩ := I.ok.funs.mem hb
  exact absurd (Nat.lt_of_lt_of_le (Heap.lt_size ho) (Nat.le_trans I.sz h)) (Nat.lt_irrefl _)
theorem Inv.cne (I : Inv X pins σ H s) : ∀ x c, X.env.cells.lookup x = some c → c ≠ X.env.locals := fun x c e z => by
  obtain ⟨v, o, ho, hd⟩ := I.cell x c e
  obtain ⟨m, ⟨o', es, ep, ho', hd', _⟩, _⟩ := I.loc
  rw [z, ho'] at ho; cases ho; rw [hd'] at hd; cases hd
theorem Inv.funs (I : Inv X pins σ H s) : s.heap.FunFrames X.base X.outer := by
  have all : ∀ (l : List Env), (∀ b ∈ frs l, b ∈ X.fs) → X.s₀.heap.FunFrames X.base l → s.heap.FunFrames X.base l := by
    intro l
    induction l with
    | nil => intro _ _; trivial
    | cons env r ih =>
      intro hs hl
      obtain ⟨hk, ⟨L, o, hf, hn, ho, hd⟩, hr⟩ := hl
      have hL : L ∈ X.fs := hs L (by unfold frs; rw [List.filterMap_cons, hf]; exact List.mem_cons_self)
      obtain ⟨sl, e⟩ := I.base.slot L o ho (I.ok.frf L hL) hL fun z => I.ok.exfs L z hL
      exact ⟨hk, ⟨L, _, hf, hn, e, hd⟩, ih (fun b hb => hs b (by unfold frs; rw [List.filterMap_cons, hf]; exact List.mem_cons_of_mem _ hb)) hr⟩
  exact all X.outer (fun _ hb => hb) I.ok.funs
theorem Inv.stack (I : Inv X pins σ H s) : s.heap.FunFrames X.base X.stack := by
  rcases I.ok.stk with e | ⟨e, hf⟩
  · rw [e]; exact I.funs
  · rw [e]
    obtain ⟨m, hn, _⟩ := I.loc
    refine .cons (by rw [I.ok.kind]; decide) hf hn ?_ I.funs
    exact Heap.get?_none_of_le (Nat.le_trans I.ok.bsz I.ok.above)
theorem Inv.stkSub (I : Inv X pins σ H s) : ∀ b ∈ frs X.stack, b ∈ X.env.locals :: X.fs := fun b hb => by
  rcases I.ok.stk with e | ⟨e, hf⟩
  · rw [e] at hb; exact List.mem_cons_of_mem _ hb
  · rw [e] at hb
    unfold frs at hb
    rw [List.filterMap_cons, hf] at hb
    exact hb
theorem Inv.stkFree (I : Inv X pins σ H s) : ∀ b ∈ frs X.stack, H b = none := fun b hb => by
  rcases List.mem_cons.mp (I.stkSub b hb) with e | hb
  · rw [e]; exact I.free
  · obtain ⟨_, o, ho, _⟩ := I.ok.funs.mem hb
    exact I.base.free b o ho (I.ok.frf b hb) fun z => I.ok.exfs b z hb
theorem Inv.step {g' : Array GenState} {t' : Nat} {d' : Drawn} {ch : List Addr} (I : Inv X pins σ H s)
    (hch : ∀ b ∈ ch, (b ∈ X.ex ∨ X.s₀.heap.objs.size ≤ b) ∧ b ≠ X.env.locals ∧ (∀ x c, X.env.cells.lookup x = some c → c ≠ b) ∧ ∀ p ∈ X.pn ++ pins, p.1 ≠ b)
    (keep : ∀ b o, b ≠ X.env.locals → b ∉ X.fs → b ∉ ch → s.heap.get? b = some o → H b = none → h'.get? b = some o)
    (slot : ∀ b o, b ≠ X.env.locals → b ∈ X.fs → b ∉ ch → s.heap.get? b = some o → H b = none → ∃ sl, h'.get? b = some { o with slots := sl }) (free : ∀ b o, b ∉ ch → s.heap.get? b = some o → H b = none → H' b = none)
    (there : ∀ b o, b ∉ ch → s.heap.get? b = some o → ∃ o', h'.get? b = some o')
    (tups : ∀ b xs, H b = some (.tup xs) → H' b = some (.tup xs)) (frzs : ∀ b o u, H b = some (.frz o u) → H' b = some (.frz o u)) (tbls : ∀ b ps, H b = some (.tbl ps) → ∃ more, H' b = some (.tbl (ps ++ more)))
    (ns : ∀ m, s.heap.Ns X.env.locals m → h'.Ns X.env.locals m) (hok : HOk X.prog X.w H' h') (hg : AllBare g') :
    Inv X pins σ H' { s with heap := h', gens := g', drawn := d', toks := t' } := by
  have neL : ∀ b o, X.s₀.heap.get? b = some o → b ≠ X.env.locals := fun b o e => Nat.ne_of_lt (Nat.lt_of_lt_of_le (Heap.lt_size e) I.ok.above)
  have neC : ∀ b o, X.s₀.heap.get? b = some o → b ∉ X.ex → b ∉ ch := fun b o e hx hb => by
    rcases (hch b hb).1 with z | z
    · exact hx z
    · exact absurd (Nat.lt_of_lt_of_le (Heap.lt_size e) z) (Nat.lt_irrefl _)
  have cellK : ∀ x c, X.env.cells.lookup x = some c → ∀ v, s.heap.IsCell c v → h'.IsCell c v := fun x c e v ⟨o, ho, hd⟩ => by
    have nch : c ∉ ch := fun z => (hch c z).2.2.1 x c e rfl
    by_cases hc : c ∈ X.fs
    · obtain ⟨sl, q⟩ := slot c o (I.cne x c e) hc nch ho (I.freeC x c e)
      exact ⟨_, q, hd⟩
    · exact ⟨o, keep c o (I.cne x c e) hc nch ho (I.freeC x c e), hd⟩
  refine ⟨I.ok, I.os, hg, ⟨fun b o e n hb hx => ?_, fun b o e n hb hx => ?_, fun b o e n hx => ?_, fun b o e hx => ?_, fun b xs e => tups b xs (I.base.tups b xs e), fun b o xs e => frzs b o xs (I.base.frzs b o xs e), fun b ps e => ?_⟩, ?_, fun x c e => ?_, ?_, fun x c e => ?_, fun p hp => ?_, hok, I.len⟩
  · exact keep b o (neL b o e) hb (neC b o e hx) (I.base.keep b o e n hb hx) (I.base.free b o e n hx)
  · obtain ⟨sl, e1⟩ := I.base.slot b o e n hb hx
    obtain ⟨sl', e2⟩ := slot b _ (neL b o e) hb (neC b o e hx) e1 (I.base.free b o e n hx)
    exact ⟨sl', e2⟩
  · obtain ⟨o', e1⟩ := I.base.there b o e hx
    exact free b o' (neC b o e hx) e1 (I.base.free b o e n hx)
  · obtain ⟨o', e1⟩ := I.base.there b o e hx
    exact there b o' (neC b o e hx) e1
  · obtain ⟨m1, e1⟩ := I.base.tbls b ps e
    obtain ⟨m2, e2⟩ := tbls b _ e1
    exact ⟨m1 ++ m2, by rw [e2, Array.append_assoc]⟩
  · obtain ⟨m, hn, hl⟩ := I.loc
    refine ⟨m, ns m hn, fun i x v e1 e2 e3 => ?_⟩
    obtain ⟨u, r, l⟩ := hl i x v e1 e2 e3
    refine ⟨u, r, ?_⟩
    rcases l with l | ⟨k, c, e, z⟩
    · exact .inl l
    · exact .inr ⟨k, c, e, cellK x c e _ z⟩
  · obtain ⟨v, z⟩ := I.cell x c e
    exact ⟨v, cellK x c e v z⟩
  · obtain ⟨m, ⟨o, _, _, ho, _⟩, _⟩ := I.loc
    exact free _ o (fun z => (hch _ z).2.1 rfl) ho I.free
  · obtain ⟨v, o, ho, hd⟩ := I.cell x c e
    exact free c o (fun z => (hch c z).2.2.1 x c e rfl) ho (I.freeC x c e)
  · obtain ⟨e, n, ne, nf, d⟩ := I.pin p hp
    have nch : p.1 ∉ ch := fun z => (hch p.1 z).2.2.2 p hp rfl
    exact ⟨keep p.1 p.2 ne nf nch e n, free p.1 p.2 nch e n, ne, nf, d⟩
theorem Inv.un {t' : Nat} (I : Inv X pins σ H s) (u : Un X.fs [] H H' s.heap h') (hok : HOk X.prog X.w H' h') : Inv X pins σ H' { s with heap := h', toks := t' } := by
  obtain ⟨m, ⟨o, es, ep, ho, r⟩, _⟩ := id I.loc
  obtain ⟨sl, hL⟩ := u.any ho I.free (by simp)
  exact I.step (g' := s.gens) (d' := s.drawn) (ch := []) (fun _ z => nomatch z) (fun b o _ hb _ e n => u.keep b o e n hb (by simp)) (fun b o _ hb _ e n => u.slot b o e n hb (by simp)) (fun b o _ e n => u.free b o e n (by simp)) (fun b o _ e => u.there b o e (by simp)) u.tups u.frzs u.tbls (fun m' hm => by
    obtain ⟨o', es', ep', ho', r'⟩ := hm
    rw [ho] at ho'; cases ho'
    exact ⟨_, es', ep', hL, r'⟩) hok I.bare
theorem Inv.call {g' : Array GenState} {t' : Nat} {d' : Drawn} {ch : List Addr} (I : Inv X pins σ H s) (u : Un (frs X.stack) ch H H' s.heap h') (hok : HOk X.prog X.w H' h') (hg : AllBare g')
    (hch : ∀ b ∈ ch, (b ∈ X.ex ∨ X.s₀.heap.objs.size ≤ b) ∧ b ≠ X.env.locals ∧ (∀ x c, X.env.cells.lookup x = some c → c ≠ b) ∧ ∀ p ∈ X.pn ++ pins, p.1 ≠ b) :
    Inv X pins σ H' { s with heap := h', gens := g', drawn := d', toks := t' } := by
  obtain ⟨m, ⟨o, es, ep, ho, r⟩, _⟩ := id I.loc
  obtain ⟨sl, hL⟩ := u.any ho I.free fun z => (hch _ z).2.1 rfl
  exact I.step (ch := ch) hch (fun b o hL hb hc e n => u.keep b o e n (fun z => (List.mem_cons.mp (I.stkSub b z)).elim hL hb) hc) (fun b o _ _ hc e n => u.any e n hc) (fun b o hc e n => u.free b o e n hc) (fun b o hc e => u.there b o e hc) u.tups u.frzs u.tbls (fun m' hm => by
    obtain ⟨o', es', ep', ho', r'⟩ := hm
    rw [ho] at ho'; cases ho'
    exact ⟨_, es', ep', hL, r'⟩) hok hg
theorem Inv.turned {t' : Nat} {it : Addr} (I : Inv X pins σ H s) (k : ∀ b o, b ≠ it → s.heap.get? b = some o → h'.get? b = some o) (hn : H it = none) (hL : it ≠ X.env.locals)
    (h1 : it ∈ X.ex ∨ X.s₀.heap.objs.size ≤ it) (h2 : ∀ x c, X.env.cells.lookup x = some c → c ≠ it) (h3 : ∀ p ∈ X.pn ++ pins, p.1 ≠ it) : Inv X pins σ H { s with heap := h', toks := t' } := by
  have nit : ∀ b u, H b = some u → b ≠ it := fun b u e z => by rw [z, hn] at e; cases e
  refine I.step (g' := s.gens) (d' := s.drawn) (ch := [it]) (fun b hb => ?_) (fun b o _ _ hc e _ => k b o (fun z => hc (by simp [z])) e) (fun b o _ _ hc e _ => ⟨o.slots, k b o (fun z => hc (by simp [z])) e⟩) (fun _ _ _ _ n => n)
    (fun b o hc e => ⟨o, k b o (fun z => hc (by simp [z])) e⟩) (fun _ _ e => e) (fun _ _ _ e => e) (fun b ps e => ⟨#[], by rw [e]; simp⟩) (fun m hm => ?_) (fun b u e => ?_) I.bare
  · have e : b = it := by simpa using hb
    subst e
    exact ⟨h1, hL, h2, h3⟩
  · obtain ⟨o, es, ep, ho, r⟩ := hm
    exact ⟨o, es, ep, k _ o (Ne.symm hL) ho, r⟩
  · refine (I.hok b u e).stay (fun c v hc q => k c v ?_ q) (fun _ q => q) fun _ _ q => q
    rcases hc with z | z
    · rw [z]; exact nit b u e
    · exact nit c _ z
theorem Inv.tok (I : Inv X pins σ H s) (t : Nat) : Inv X pins σ H { s with toks := t } := I.un (h' := s.heap) (t' := t) Un.refl I.hok
theorem Inv.kept {t' : Nat} (I : Inv X pins σ H s) (k : ∀ b u, s.heap.get? b = some u → h'.get? b = some u) : Inv X pins σ H { s with heap := h', toks := t' } := I.un (Un.kept k) (I.hok.kept k)
theorem Inv.laid {a : Addr} {o : HO} {t' : Nat} (I : Inv X pins σ H s) (k : ∀ b u, s.heap.get? b = some u → h'.get? b = some u) (hp : s.heap.objs.size ≤ a) (new : ObjOk X.prog X.w (upd H a o) h' a o) :
    Inv X pins σ (upd H a o) { s with heap := h', toks := t' } := I.un (Un.laid k hp (I.hok.fresh hp)) (I.hok.laid k hp new)
theorem Inv.write {x e : Addr} {o : HO} {t' : Nat} (I : Inv X pins σ H s) (mu : Mut (H x)) (he : e = x ∨ H e = some (.own x)) (k : ∀ b u, b ≠ e → s.heap.get? b = some u → h'.get? b = some u) (heo : ∃ u, h'.get? e = some u)
    (new : ObjOk X.prog X.w (upd H x o) h' x o) : Inv X pins σ (upd H x o) { s with heap := h', toks := t' } := I.un (Un.write mu he k heo) (I.hok.write mu he k heo new)
theorem Inv.pins_of {pins' : List (Addr × Obj)} (I : Inv X pins σ H s) (h : ∀ p ∈ pins', s.heap.get? p.1 = some p.2 ∧ H p.1 = none ∧ p.1 ≠ X.env.locals ∧ p.1 ∉ X.fs ∧ ∀ v, p.2.data ≠ .cell v) : Inv X pins' σ H s :=
  ⟨I.ok, I.os, I.bare, I.base, I.loc, I.cell, I.free, I.freeC, fun p hp => (List.mem_append.mp hp).elim (fun z => I.pin p (List.mem_append_left _ z)) (h p), I.hok, I.len⟩
theorem nodup_ix {N : List Str} (hN : N.Nodup) {i j : Nat} {x : Str} (a : N[i]? = some x) (b : N[j]? = some x) : i = j := by
  obtain ⟨h1, e1⟩ := List.getElem?_eq_some_iff.mp a
  obtain ⟨h2, e2⟩ := List.getElem?_eq_some_iff.mp b
  exact (List.getElem_inj hN).mp (e1.trans e2.symm)
theorem store_ok2 {M : Model} {A : Around} {E : Value → Shared → Prop} {i : Nat} {x : Str} {v : V} {u : Value} {Q : Unit → Shared → Prop} (I : Inv X pins σ H s) (hN : X.N.Nodup) (hi : X.N[i]? = some x) (hx : Loc X.env.scope x) (r : RelV v u)
    (h : ∀ s', Inv X pins (σ.set i (some v)) H s' → (∃ a, Heap.SameBut a s.heap s'.heap ∧ (a = X.env.locals ∨ X.env.cells.lookup x = some a)) → Q () s') (hf : X.fn x = true ∨ X.env.scope.names.lookup x = some .local := by first | exact .inl rfl | exact .inr rfl | assumption) : wpAny M A (storeName X.env x u) Q E s := by
  obtain ⟨m, hn, hl⟩ := id I.loc
  have hcls : (X.env.scope.kind == .class || (X.env.scope.kind == .module && X.env.locals != X.env.globals)) = false := by rw [I.ok.kind]; rfl
  have hiσ : i < σ.length := by rw [I.len]; exact (List.getElem?_eq_some_iff.mp hi).1
  have cne := I.cne
  have tracked : ∀ {a : Addr} {h' : Heap}, (∃ o, s.heap.get? a = some o ∧ H a = none) → Heap.SameBut a s.heap h' → HOk X.prog X.w H h' := fun {a h'} ha hs b ob e => by
    obtain ⟨_, _, hfree⟩ := ha
    refine (I.hok b ob e).stay (fun c w' hc q => (hs.2 c ?_).trans q) (fun _ q => q) fun _ _ q => q
    rintro rfl
    rcases hc with rfl | hc
    · rw [hfree] at e; cases e
    · rw [hfree] at hc; cases hc
  rcases hx with hk | hk
  · refine wpAny_storeName_local hk hn (fun h' hn' hs => ?_) hcls
    obtain ⟨oL, _, _, hoL, _⟩ := id hn
    refine h _ ⟨I.ok, I.os, I.bare, ⟨fun b o e n hb hx => ?_, fun b o e n hb hx => ?_, I.base.free, fun b o e hx => ?_, I.base.tups, I.base.frzs, I.base.tbls⟩, ⟨_, hn', fun j y v' e1 e2 e3 => ?_⟩, fun y c e => ?_, I.free, I.freeC, fun p hp => ?_, tracked ⟨oL, hoL, I.free⟩ hs, by simpa using I.len⟩ ⟨_, hs, .inl rfl⟩
    · exact (hs.2 b (Nat.ne_of_lt (Nat.lt_of_lt_of_le (Heap.lt_size e) I.ok.above))).trans (I.base.keep b o e n hb hx)
    · obtain ⟨sl, e1⟩ := I.base.slot b o e n hb hx
      exact ⟨sl, (hs.2 b (Nat.ne_of_lt (Nat.lt_of_lt_of_le (Heap.lt_size e) I.ok.above))).trans e1⟩
    · obtain ⟨o', e1⟩ := I.base.there b o e hx
      exact ⟨o', (hs.2 b (Nat.ne_of_lt (Nat.lt_of_lt_of_le (Heap.lt_size e) I.ok.above))).trans e1⟩
    · by_cases hj : j = i
      · subst hj
        rw [hi] at e1; cases e1
        rw [List.getElem?_set_self hiσ] at e2
        cases e2
        exact ⟨u, r, .inl ⟨hk, by simp⟩⟩
      · rw [List.getElem?_set_ne (Ne.symm hj)] at e2
        obtain ⟨u', r', q⟩ := hl j y v' e1 e2 e3
        refine ⟨u', r', ?_⟩
        rcases q with ⟨k, e⟩ | ⟨k, c, e, z⟩
        · refine .inl ⟨k, ?_⟩
          have : y ≠ x := fun e => hj (nodup_ix hN e1 (e ▸ hi))
          simp [this, e]
        · exact .inr ⟨k, c, e, z.sameBut hs (cne y c e)⟩
    · obtain ⟨w', z⟩ := I.cell y c e
      exact ⟨w', z.sameBut hs (cne y c e)⟩
    · obtain ⟨e, n, ne, nf, d⟩ := I.pin p hp
      exact ⟨(hs.2 p.1 ne).trans e, n, ne, nf, d⟩
  · have hfn : X.fn x = true := by
      rcases hf with z | z
      · exact z
      · rw [z] at hk; cases hk
    obtain ⟨c, hc⟩ := I.ok.has x (.inl hk)
    obtain ⟨w', z⟩ := I.cell x c hc
    refine wpAny_storeName_cell I.ok.kind hk hc z (fun h' hc' hs => ?_)
    obtain ⟨oc, hoc, hocd⟩ := id z
    refine h { s with heap := h' } ⟨I.ok, I.os, I.bare, ⟨fun b o e n hb hx => ?_, fun b o e n hb hx => ?_, I.base.free, fun b o e hx => ?_, I.base.tups, I.base.frzs, I.base.tbls⟩, ⟨m, hn.sameBut hs (Ne.symm (cne x c hc)), fun j y v' e1 e2 e3 => ?_⟩, fun y c' e => ?_, I.free, I.freeC, fun p hp => ?_, tracked ⟨oc, hoc, I.freeC x c hc⟩ hs, by simpa using I.len⟩ ⟨c, hs, .inr hc⟩
    · exact (hs.2 b (Nat.ne_of_lt (Nat.lt_of_lt_of_le (Heap.lt_size e) (I.ok.cab x c hfn hc)))).trans (I.base.keep b o e n hb hx)
    · obtain ⟨sl, e1⟩ := I.base.slot b o e n hb hx
      exact ⟨sl, (hs.2 b (Nat.ne_of_lt (Nat.lt_of_lt_of_le (Heap.lt_size e) (I.ok.cab x c hfn hc)))).trans e1⟩
    · obtain ⟨o', e1⟩ := I.base.there b o e hx
      exact ⟨o', (hs.2 b (Nat.ne_of_lt (Nat.lt_of_lt_of_le (Heap.lt_size e) (I.ok.cab x c hfn hc)))).trans e1⟩
    · by_cases hj : j = i
      · subst hj
        rw [hi] at e1; cases e1
        rw [List.getElem?_set_self hiσ] at e2
        cases e2
        exact ⟨u, r, .inr ⟨.inl hk, c, hc, hc'⟩⟩
      · rw [List.getElem?_set_ne (Ne.symm hj)] at e2
        obtain ⟨u', r', q⟩ := hl j y v' e1 e2 e3
        refine ⟨u', r', ?_⟩
        rcases q with q | ⟨k, c', e, z'⟩
        · exact .inl q
        · refine .inr ⟨k, c', e, z'.sameBut hs ?_⟩
          rintro rfl
          exact hj (nodup_ix hN e1 (I.ok.inj _ _ _ e hc ▸ hi))
    · by_cases hcc : c' = c
      · subst hcc; exact ⟨_, hc'⟩
      · obtain ⟨w2, z2⟩ := I.cell y c' e
        exact ⟨w2, z2.sameBut hs hcc⟩
    · obtain ⟨e, n, ne, nf, d⟩ := I.pin p hp
      refine ⟨(hs.2 p.1 ?_).trans e, n, ne, nf, d⟩
      intro q
      rw [q, hoc] at e
      have q' : oc = p.2 := Option.some.inj e
      exact d w' (by rw [← q']; exact hocd)
theorem store_ok {M : Model} {A : Around} {E : Value → Shared → Prop} {i : Nat} {x : Str} {v : V} {u : Value} {Q : Unit → Shared → Prop} (I : Inv X pins σ H s) (hN : X.N.Nodup) (hi : X.N[i]? = some x) (hx : Loc X.env.scope x) (r : RelV v u)
    (h : ∀ s', Inv X pins (σ.set i (some v)) H s' → Q () s') (hf : X.fn x = true ∨ X.env.scope.names.lookup x = some .local := by first | exact .inl rfl | exact .inr rfl | assumption) : wpAny M A (storeName X.env x u) Q E s :=
  store_ok2 I hN hi hx r (fun s' I' _ => h s' I') hf
theorem Inv.call' {s' : Shared} {ch : List Addr} (I : Inv X pins σ H s) (ho : s'.os = s.os) (u : Un (frs X.stack) ch H H' s.heap s'.heap) (hok : HOk X.prog X.w H' s'.heap) (hg : AllBare s'.gens)
    (hch : ∀ b ∈ ch, (b ∈ X.ex ∨ X.s₀.heap.objs.size ≤ b) ∧ b ≠ X.env.locals ∧ (∀ x c, X.env.cells.lookup x = some c → c ≠ b) ∧ ∀ p ∈ X.pn ++ pins, p.1 ≠ b) : Inv X pins σ H' s' := by
  obtain ⟨h', g', d', t', o'⟩ := s'
  have e : o' = s.os := ho
  subst e
  exact I.call (g' := g') (t' := t') (d' := d') u hok hg hch
end
abbrev XK := Value → Option Addr → Hp → Prop
abbrev St := List (Option V)
abbrev VK := V → Hp → Prop
abbrev TE := St → Hp → VK → Prop
abbrev TT := St → Hp → (Bool → Hp → Prop) → Prop
abbrev TA := St → Hp → (List V → Hp → Prop) → Prop
structure Ends where
  nx : St → Hp → Prop
  rt : VK
  bk : St → Hp → Prop := fun _ _ => False
  ct : St → Hp → Prop := fun _ _ => False
abbrev TS := Ends → St → Hp → Prop
def EP (X : Cx) (pins : List (Addr × Obj)) (σ : St) (Q : VK) (u : Value) (s' : Shared) : Prop := ∃ v H', Inv X pins σ H' s' ∧ RelV v u ∧ Q v H'
def TP (X : Cx) (pins : List (Addr × Obj)) (σ : St) (Q : Bool → Hp → Prop) (b : Bool) (s' : Shared) : Prop := ∃ H', Inv X pins σ H' s' ∧ Q b H'
def AP (X : Cx) (pins : List (Addr × Obj)) (σ : St) (Q : List V → Hp → Prop) (us : List Value) (s' : Shared) : Prop := ∃ vs H', Inv X pins σ H' s' ∧ Vals vs us ∧ Q vs H'
def SP (X : Cx) (pins : List (Addr × Obj)) (D : Ends) (f : Flow) (s' : Shared) : Prop :=
  match f with
  | .next => ∃ σ' H', Inv X pins σ' H' s' ∧ D.nx σ' H'
  | .brk => ∃ σ' H', Inv X pins σ' H' s' ∧ D.bk σ' H'
  | .cont => ∃ σ' H', Inv X pins σ' H' s' ∧ D.ct σ' H'
  | .ret u => ∃ v σ' H', Inv X pins σ' H' s' ∧ RelV v u ∧ D.rt v H'
def PE (X : Cx) (e : Expr) (t : TE) : Prop :=
  ∀ (pins : List (Addr × Obj)) (s : Shared) (σ : St) (H : Hp) (Q : VK), Inv X pins σ H s → t σ H Q → wpAny (model X.prog X.w) X.A (eval e X.env) (EP X pins σ Q) X.xe s
def PT (X : Cx) (e : Expr) (t : TT) : Prop :=
  ∀ (pins : List (Addr × Obj)) (s : Shared) (σ : St) (H : Hp) (Q : Bool → Hp → Prop), Inv X pins σ H s → t σ H Q → wpAny (model X.prog X.w) X.A (isTrue e X.env (eval e X.env)) (TP X pins σ Q) X.xe s
def PW (X : Cx) (e : Expr) (t : TT) : Prop :=
  ∀ (whole : Sem Value) (pins : List (Addr × Obj)) (s : Shared) (σ : St) (H : Hp) (Q : Bool → Hp → Prop), Inv X pins σ H s → t σ H Q → wpAny (model X.prog X.w) X.A (isTrue e X.env whole) (TP X pins σ Q) X.xe s
theorem PW.pt {X : Cx} {e : Expr} {t : TT} (h : PW X e t) : PT X e t := h _
def PA (X : Cx) (es : List Expr) (t : TA) : Prop :=
  ∀ (pos : Pos) (pins : List (Addr × Obj)) (s : Shared) (σ : St) (H : Hp) (Q : List V → Hp → Prop), Inv X pins σ H s → t σ H Q → wpAny (model X.prog X.w) X.A (spliced (backTo pos (starEach es X.env))) (AP X pins σ Q) X.xe s
def PS (X : Cx) (st : Stmt) (t : TS) : Prop :=
  ∀ (pins : List (Addr × Obj)) (s : Shared) (σ : St) (H : Hp) (D : Ends), Inv X pins σ H s → t D σ H → wpAny (model X.prog X.w) X.A (exec st X.env) (SP X pins D) X.xe s
def PSs (X : Cx) (st : List Stmt) (t : TS) : Prop :=
  ∀ (pins : List (Addr × Obj)) (s : Shared) (σ : St) (H : Hp) (D : Ends), Inv X pins σ H s → t D σ H → wpAny (model X.prog X.w) X.A (execs st X.env) (SP X pins D) X.xe s
theorem thn {α : Type} {t : Sem α} {Q Q' : α → Shared → Prop} {M : Model} {A : Around} {E : Value → Shared → Prop} {s : Shared} (h : wpAny M A t Q E s) (hQ : ∀ a s, Q a s → Q' a s) : wpAny M A t Q' E s := wpAny_mono h hQ fun _ _ x => x
end L2
namespace L2
open PySem PySem.Spec PyProof.Rows
section
variable {X : Cx}
def tVar (i : Nat) : TE := fun σ H Q => ∃ v, σ[i]? = some (some v) ∧ Q v H
def tC (v : V) : TE := fun _ H Q => Q v H
theorem pe_var {i : Nat} {x : Str} {pos : Pos} (hN : X.N[i]? = some x) (hv : Vis X.env.scope x) (hd : (x == ("__debug__" : Str)) = false := by decide) (hcd : (x == ("__classdict__" : Str)) = false := by decide) : PE X (.Name x pos) (tVar i) := by
  intro pins s σ H Q I h
  obtain ⟨v, e, h⟩ := h
  obtain ⟨m, hn, hl⟩ := I.loc
  obtain ⟨u, r, l⟩ := hl i x v hN e hv
  have fin : EP X pins σ Q u s := ⟨v, H, I, r, h⟩
  rcases l with ⟨hk, hm⟩ | ⟨hk, c, hc, hcell⟩
  · exact wpAny_Name (wpAny_loadName_local I.ok.kind hk hn hm fin) hd
  · rcases hk with hk | hk
    · exact wpAny_Name (wpAny_loadName_cell I.ok.kind hk hc hcell fin) hd
    · exact wpAny_Name (wpAny_loadName_free I.ok.kind hk hc hcell fin hcd) hd
theorem pe_int {i j pos} : PE X (.Constant (.int i) j pos) (tC (.int i)) := fun _ _ _ H _ I h => wpAny_Constant_int ⟨.int i, H, I.tok _, ⟨_, rfl⟩, h⟩
theorem pe_bl {b j pos} : PE X (.Constant (.bool b) j pos) (tC (.bl b)) := fun _ _ _ H _ I h => Constant_bool ⟨.bl b, H, I, rfl, h⟩
theorem pe_non {j pos} : PE X (.Constant .none j pos) (tC .non) := fun _ _ _ H _ I h => Constant_none ⟨.non, H, I, rfl, h⟩
theorem pe_str {x j pos} : PE X (.Constant (.str x) j pos) (tC (.str x)) := fun _ _ _ H _ I h => Calls.Constant_str ⟨.str x, H, I.tok _, ⟨_, rfl⟩, h⟩
def Gl (X : Cx) (x : Str) : Prop := X.env.kindOf x = some .globalImplicit
theorem ld_glob {E : Value → Shared → Prop} {pins : List (Addr × Obj)} {s : Shared} {σ : St} {H : Hp} {x : Str} {u : Value} {pos : Pos} {Q : Value → Shared → Prop} (I : Inv X pins σ H s) (hg : Gl X x) (hm : X.mg x = some u) (h : Q u s)
    (hd : (x == ("__debug__" : Str)) = false := by decide) : wpAny (model X.prog X.w) X.A (eval (.Name x pos) X.env) Q E s :=
  Calls.Name_function_global I.ok.kind hg (Calls.loadGlobal_global (by rw [I.ok.glob]; exact I.mod.glob.keeps I.bk) hm h) hd
theorem ld_blt {E : Value → Shared → Prop} {pins : List (Addr × Obj)} {s : Shared} {σ : St} {H : Hp} {x : Str} {u : Value} {pos : Pos} {Q : Value → Shared → Prop} (I : Inv X pins σ H s) (hg : Gl X x) (hm : X.mg x = none) (hv : bootBuiltins x = some u) (h : Q u s)
    (hn : x ≠ "__name__" := by decide) (hd : (x == ("__debug__" : Str)) = false := by decide) : wpAny (model X.prog X.w) X.A (eval (.Name x pos) X.env) Q E s := by
  obtain ⟨mb, h1, h2⟩ := I.mod.blt
  exact Calls.Name_function_global I.ok.kind hg (Calls.loadGlobal_builtin (by rw [I.ok.glob]; exact I.mod.glob.keeps I.bk) hm (by rw [I.ok.blt]; exact h1.keeps I.bk) ((h2 x hn).trans hv) h) hd
theorem pe_glob {x : Str} {v : V} {u : Value} {pos : Pos} (hg : Gl X x) (hm : X.mg x = some u) (r : RelV v u) (hd : (x == ("__debug__" : Str)) = false := by decide) : PE X (.Name x pos) (tC v) :=
  fun _ _ _ H _ I h => ld_glob I hg hm ⟨v, H, I, r, h⟩ hd
theorem pe_bltn {x : Str} {v : V} {u : Value} {pos : Pos} (hg : Gl X x) (hm : X.mg x = none) (hv : bootBuiltins x = some u) (r : RelV v u) (hn : x ≠ "__name__" := by decide) (hd : (x == ("__debug__" : Str)) = false := by decide) : PE X (.Name x pos) (tC v) :=
  fun _ _ _ H _ I h => ld_blt I hg hm hv ⟨v, H, I, r, h⟩ hn hd
variable {a b : Expr} {ta tb : TE} {pos : Pos}
def PC (X : Cx) (op : CmpOp) (a b : Expr) (t : TE) : Prop :=
  ∀ (pins : List (Addr × Obj)) (s : Shared) (σ : St) (H : Hp) (Q : VK), Inv X pins σ H s → t σ H Q →
    wpAny (model X.prog X.w) X.A (eval a X.env) (fun v s₁ => wpAny (model X.prog X.w) X.A (eval b X.env) (fun u s₂ => wpAny (model X.prog X.w) X.A (compareOp op v u) (EP X pins σ Q) X.xe s₂) X.xe s₁) X.xe s
def tB (t : TE) : TT := fun σ H Q => t σ H fun x H1 => ∃ c, x = .bl c ∧ Q c H1
theorem pt_cmp {op : CmpOp} {t : TE} (h : PC X op a b t) (h1 : behindInMarks op b = false := by first | exact nobehind _ (by decide) (by decide) | rfl) : PT X (.Compare a [op] [b] pos) (tB t) := by
  intro pins s σ H Q I hw
  refine wpAny_isTrue_Compare1 (thn (h pins s σ H _ I hw) fun v s1 h1 => thn h1 fun u s2 h2 => thn h2 fun c s3 ⟨x, H1, I1, r1, q1⟩ => ?_) h1
  obtain ⟨d, rfl, q⟩ := q1
  cases r1
  exact wpAny_truthy_bool ⟨H1, I1, q⟩
theorem pt_val {e : Expr} {t : TE} (h : PE X e t) (he : ∀ whole, isTrue e X.env whole = (do let v ← whole; standAt e.pos; holding [v] (truthy v)) := by intro _; rfl) : PT X e (tB t) := by
  intro pins s σ H Q I hw
  refine isTrue_plain (thn (h pins s σ H _ I hw) fun v s1 ⟨x, H1, I1, r1, q1⟩ => ?_) (he _)
  obtain ⟨d, rfl, q⟩ := q1
  cases r1
  exact wpAny_truthy_bool ⟨H1, I1, q⟩
variable {tA tB' : TT} {rest : List Expr}
def tAnd (t u : TT) : TT := fun σ H Q => t σ H fun c H1 => if c = true then u σ H1 Q else Q false H1
def tOr (t u : TT) : TT := fun σ H Q => t σ H fun c H1 => if c = true then Q true H1 else u σ H1 Q
def tNot (t : TT) : TT := fun σ H Q => t σ H fun c H1 => Q (!c) H1
theorem pw_and1 (ha : PT X a tA) : PW X (.BoolOp .And [a] pos) tA := by
  intro wh pins s σ H Q I h
  refine isTrue_and (thn (ha pins s σ H Q I h) fun c s1 e => ?_)
  cases c with
  | true => exact isTrue_and_nil e
  | false => exact e
theorem pw_or1 (ha : PT X a tA) : PW X (.BoolOp .Or [a] pos) tA := by
  intro wh pins s σ H Q I h
  refine isTrue_or (thn (ha pins s σ H Q I h) fun c s1 e => ?_)
  cases c with
  | false => exact isTrue_or_nil e
  | true => exact e
theorem pw_and (ha : PT X a tA) (hb : PW X (.BoolOp .And (b :: rest) pos) tB') : PW X (.BoolOp .And (a :: b :: rest) pos) (tAnd tA tB') := by
  intro wh pins s σ H Q I h
  refine isTrue_and (thn (ha pins s σ H _ I h) fun c s1 ⟨H1, I1, q1⟩ => ?_)
  cases c with
  | true => exact hb wh pins s1 σ H1 Q I1 q1
  | false => exact ⟨H1, I1, q1⟩
theorem pw_or (ha : PT X a tA) (hb : PW X (.BoolOp .Or (b :: rest) pos) tB') : PW X (.BoolOp .Or (a :: b :: rest) pos) (tOr tA tB') := by
  intro wh pins s σ H Q I h
  refine isTrue_or (thn (ha pins s σ H _ I h) fun c s1 ⟨H1, I1, q1⟩ => ?_)
  cases c with
  | true => exact ⟨H1, I1, q1⟩
  | false => exact hb wh pins s1 σ H1 Q I1 q1
theorem pt_not (ha : PT X a tA) : PT X (.UnaryOp .Not a pos) (tNot tA) := by
  intro pins s σ H Q I h
  exact isTrue_not (ha pins s σ H (fun c H1 => Q (!c) H1) I h)
def tAndV (ta tb : TE) : TE := fun σ H Q => ta σ H fun x H1 => ∃ c, x = .bl c ∧ if c = true then tb σ H1 Q else Q (.bl false) H1
def tNotV (ta : TE) : TE := fun σ H Q => ta σ H fun x H1 => ∃ c, x = .bl c ∧ Q (.bl (!c)) H1
theorem pe_one {op} {t : TE} (h : PE X a t) : PE X (.BoolOp op [a] pos) t := fun pins s σ H Q I hw => BoolOp_one (h pins s σ H Q I hw)
theorem pe_and (ha : PE X a ta) (hb : PE X (.BoolOp .And (b :: rest) pos) tb) : PE X (.BoolOp .And (a :: b :: rest) pos) (tAndV ta tb) := by
  intro pins s σ H Q I h
  refine BoolOp_and (thn (ha pins s σ H _ I h) fun v s1 ⟨x, H1, I1, r1, q1⟩ => ?_)
  obtain ⟨c, rfl, q1⟩ := q1
  cases r1
  refine wpAny_truthy_bool ?_
  cases c with
  | true => exact hb pins s1 σ H1 Q I1 q1
  | false => exact ⟨.bl false, H1, I1, rfl, q1⟩
theorem pe_not (ha : PE X a ta) : PE X (.UnaryOp .Not a pos) (tNotV ta) := by
  intro pins s σ H Q I h
  refine UnaryOp_ (thn (ha pins s σ H _ I h) fun v s1 ⟨x, H1, I1, r1, q1⟩ => ?_)
  obtain ⟨c, rfl, q1⟩ := q1
  cases r1
  exact not_of (wpAny_truthy_bool ⟨.bl (!c), H1, I1, rfl, q1⟩)
end
end L2
namespace L2
open PySem PySem.Spec PyProof.Rows
def SqL (K : PySem.W.Frag) (H : Hp) (a : Addr) (xs : List V) : Prop :=
  Rd H a (.lst xs) ∨
    ∃ (o : Obj) (its : Array Value) (n : Nat), K.lookup a = some o ∧ o.cls = .type "list" ∧ o.dict = none ∧ o.data = .seq its n ∧ its.size ≤ sizeLine ∧ Vals xs its.toList
def SqT (K : PySem.W.Frag) (H : Hp) (a : Addr) (xs : List V) : Prop :=
  Rd H a (.tup xs) ∨
    ∃ (o : Obj) (its : Array Value) (n : Nat), K.lookup a = some o ∧ o.cls = .type "tuple" ∧ o.data = .seq its n ∧ its.size ≤ sizeLine ∧ Vals xs its.toList
def absV : Value → Option V
  | .none => some .non
  | .bool b => some (.bl b)
  | .int i _ => some (.int i)
  | .str x _ => some (.str x)
  | .bytes b _ => some (.byt b)
  | .float b _ => some (.flt b)
  | .ref a => some (.ref a)
  | .type n => some (.ty n)
  | _ => none
theorem RelV.abs {x : V} {u : Value} (r : RelV x u) : absV u = some x := by
  cases x with
  | non => cases r; rfl
  | bl _ => cases r; rfl
  | int _ => obtain ⟨t, rfl⟩ := r; rfl
  | str _ => obtain ⟨t, rfl⟩ := r; rfl
  | byt _ => obtain ⟨t, rfl⟩ := r; rfl
  | flt _ => obtain ⟨t, rfl⟩ := r; rfl
  | ref _ => cases r; rfl
  | ty _ => cases r; rfl
theorem RelV.inj {x y : V} {u : Value} (r : RelV x u) (q : RelV y u) : x = y := Option.some.inj (r.abs.symm.trans q.abs)
theorem Vals.inj : ∀ {xs ys : List V} {us : List Value}, Vals xs us → Vals ys us → xs = ys
  | _, _, _, .nil, .nil => rfl
  | _, _, _, .cons r t, .cons r' t' => by rw [r.inj r', Vals.inj t t']
section
variable {X : Cx} {pins : List (Addr × Obj)} {σ : St} {H : Hp} {s : Shared} {a : Addr} {xs ys : List V}
theorem SqL.of {K : PySem.W.Frag} (h : H a = some (.lst xs)) : SqL K H a xs := .inl (.inl h)
theorem SqT.of {K : PySem.W.Frag} (h : H a = some (.tup xs)) : SqT K H a xs := .inl (.inl h)
theorem Inv.list (I : Inv X pins σ H s) (h : SqL X.K H a xs) : ∃ its : List Value, Vals xs its ∧ PlainL s.heap a its.toArray ∧ xs.length ≤ sizeLine := by
  rcases h with h | ⟨o, its, n, hk, hc, hd, hs, hz, r⟩
  · obtain ⟨z, its, n, r, e⟩ := h.ok I.hok
    exact ⟨its, r, ⟨_, n, e, rfl, rfl, rfl⟩, z⟩
  · refine ⟨its.toList, r, ⟨o, n, I.kIn a o hk, hc, hd, by simpa using hs⟩, ?_⟩
    have e := r.length
    simp only [Array.length_toList] at e
    omega
theorem Inv.tuple (I : Inv X pins σ H s) (h : SqT X.K H a xs) : ∃ its : List Value, Vals xs its ∧ IsTup s.heap a its.toArray ∧ xs.length ≤ sizeLine := by
  rcases h with h | ⟨o, its, n, hk, hc, hs, hz, r⟩
  · obtain ⟨z, its, r, p⟩ := h.ok I.hok
    exact ⟨its, r, p, z⟩
  · refine ⟨its.toList, r, ⟨o, I.kIn a o hk, hc, n, by simpa using hs⟩, ?_⟩
    have e := r.length
    simp only [Array.length_toList] at e
    omega
theorem Inv.list_inj (I : Inv X pins σ H s) (h : SqL X.K H a xs) (h' : SqL X.K H a ys) : xs = ys := by
  obtain ⟨its, r, ⟨o, n, e, _, _, d⟩, _⟩ := I.list h
  obtain ⟨its', r', ⟨o', n', e', _, _, d'⟩, _⟩ := I.list h'
  rw [e] at e'; cases e'
  rw [d] at d'
  injection d' with d1 _
  have : its = its' := by simpa using congrArg Array.toList d1
  subst this
  exact r.inj r'
theorem Inv.tuple_inj (I : Inv X pins σ H s) (h : SqT X.K H a xs) (h' : SqT X.K H a ys) : xs = ys := by
  obtain ⟨its, r, ⟨o, e, _, n, d⟩, _⟩ := I.tuple h
  obtain ⟨its', r', ⟨o', e', _, n', d'⟩, _⟩ := I.tuple h'
  rw [e] at e'; cases e'
  rw [d] at d'
  injection d' with d1 _
  have : its = its' := by simpa using congrArg Array.toList d1
  subst this
  exact r.inj r'
end
abbrev Cx.wish (X : Cx) (E : Value → Shared → Prop) : Cx := { X with xe := E }
abbrev Cx.nox (X : Cx) : Cx := X.wish fun _ _ => False
theorem Cx.Ok.wish {X : Cx} (ok : X.Ok) (E : Value → Shared → Prop) : (X.wish E).Ok :=
  ⟨ok.mod, ok.kind, ok.glob, ok.blt, ok.above, ok.inj, ok.has, ok.cab, ok.hd, ok.frames, ok.stk, ok.exf, ok.bs, ok.bsz, ok.noex, ok.exfs, ok.funs, ok.frf⟩
theorem Cx.Ok.unwish {X : Cx} {E : Value → Shared → Prop} (ok : (X.wish E).Ok) : X.Ok :=
  ⟨ok.mod, ok.kind, ok.glob, ok.blt, ok.above, ok.inj, ok.has, ok.cab, ok.hd, ok.frames, ok.stk, ok.exf, ok.bs, ok.bsz, ok.noex, ok.exfs, ok.funs, ok.frf⟩
section
variable {X : Cx} {pins : List (Addr × Obj)} {σ : St} {H : Hp} {s : Shared} {E : Value → Shared → Prop}
theorem Inv.wish (I : Inv X pins σ H s) (E : Value → Shared → Prop) : Inv (X.wish E) pins σ H s := ⟨I.ok.wish E, I.os, I.bare, I.base, I.loc, I.cell, I.free, I.freeC, I.pin, I.hok, I.len⟩
theorem Inv.unwish (I : Inv (X.wish E) pins σ H s) : Inv X pins σ H s := ⟨I.ok.unwish, I.os, I.bare, I.base, I.loc, I.cell, I.free, I.freeC, I.pin, I.hok, I.len⟩
theorem SP.unwish {D : Ends} {f : Flow} {s' : Shared} (h : SP (X.wish E) pins D f s') : SP X pins D f s' := by
  cases f with
  | next => obtain ⟨σ', H', I, q⟩ := h; exact ⟨σ', H', I.unwish, q⟩
  | brk => obtain ⟨σ', H', I, q⟩ := h; exact ⟨σ', H', I.unwish, q⟩
  | cont => obtain ⟨σ', H', I, q⟩ := h; exact ⟨σ', H', I.unwish, q⟩
  | ret u => obtain ⟨v, σ', H', I, r, q⟩ := h; exact ⟨v, σ', H', I.unwish, r, q⟩
theorem PSs.nox {st : List Stmt} {t : TS} (h : PSs X.nox st t) : PSs X st t := fun pins s σ H D I hw =>
  wpAny_mono (h pins s σ H D (I.wish _) hw) (fun _ _ q => q.unwish) fun _ _ z => False.elim z
end
section
variable {X : Cx} {st : Stmt} {rest : List Stmt} {t u : TS} {e : Expr} {te : TE} {pos : Pos}
def tNext : TS := fun D σ H => D.nx σ H
def tSeq (t u : TS) : TS := fun D σ H => t { D with nx := u D } σ H
theorem pss_nil : PSs X [] tNext := fun _ _ σ H _ I h => wpAny_execs_nil ⟨σ, H, I, h⟩
theorem pss_cons (h1 : PS X st t) (h2 : PSs X rest u) : PSs X (st :: rest) (tSeq t u) := by
  intro pins s σ H D I h
  refine wpAny_execs_cons (thn (h1 pins s σ H { D with nx := u D } I h) fun f s1 q => ?_)
  cases f with
  | next =>
    obtain ⟨σ', H', I', q⟩ := q
    exact h2 pins s1 σ' H' D I' q
  | ret v => exact q
  | brk => exact q
  | cont => exact q
theorem pss_one (h1 : PS X st t) : PSs X [st] t := by
  intro pins s σ H D I h
  refine wpAny_execs_cons (thn (h1 pins s σ H D I h) fun f s1 q => ?_)
  cases f with
  | next => exact wpAny_execs_nil q
  | ret v => exact q
  | brk => exact q
  | cont => exact q
theorem Inv.quiet {pins : List (Addr × Obj)} {σ : St} {H : Hp} {s : Shared} (I : Inv X pins σ H s) : interactive X.env = false := by simp [interactive, I.ok.kind]
def tDrop (te : TE) : TS := fun D σ H => te σ H fun _ H1 => D.nx σ H1
theorem ps_expr (he : PE X e te) (hs : swapsWith e none pos.line X.env = pure false := by rfl) : PS X (.Expr e pos) (tDrop te) := by
  intro pins s σ H D I h
  exact wpAny_Expr_any (thn (he pins s σ H _ I h) fun v s1 ⟨x, H1, I1, r1, q1⟩ => ⟨σ, H1, I1, q1⟩) I.quiet hs
def tRet (te : TE) : TS := fun D σ H => te σ H D.rt
theorem ps_ret (he : PE X e te) : PS X (.Return (some e) pos) (tRet te) := by
  intro pins s σ H D I h
  exact wpAny_Return_some (thn (he pins s σ H _ I h) fun v s1 ⟨x, H1, I1, r1, q1⟩ => ⟨x, σ, H1, I1, r1, q1⟩)
def tIfS (c : TT) (t u : TS) : TS := fun D σ H => c σ H fun b H1 => if b = true then t D σ H1 else u D σ H1
theorem ps_if {c : Expr} {a b : List Stmt} {tc : TT} (hc : PT X c tc) (ha : PSs X a t) (hb : PSs X b u) : PS X (.If c a b pos) (tIfS tc t u) := by
  intro pins s σ H D I h
  refine wpAny_If (thn (hc pins s σ H _ I h) fun d s1 ⟨H1, I1, q1⟩ => ?_)
  cases d with
  | true => exact ha pins s1 σ H1 D I1 q1
  | false => exact hb pins s1 σ H1 D I1 q1
def tNever : TS := fun _ _ _ => False
theorem pss_never {sts : List Stmt} : PSs X sts tNever := fun _ _ _ _ _ _ h => h.elim
end
abbrev TG := V → St → Hp → (St → Hp → Prop) → Prop
abbrev TGs := List V → St → Hp → (St → Hp → Prop) → Prop
def PG (X : Cx) (target : Expr) (t : TG) : Prop :=
  ∀ (pins : List (Addr × Obj)) (s : Shared) (σ : St) (H : Hp) (v : V) (u : Value) (Q : St → Hp → Prop), Inv X pins σ H s → RelV v u → t v σ H Q →
    wpAny (model X.prog X.w) X.A (assign target X.env u) (fun _ s' => ∃ σ' H', Inv X pins σ' H' s' ∧ Q σ' H') X.xe s
def PGs (X : Cx) (ts : List Expr) (t : TGs) : Prop :=
  ∀ (pins : List (Addr × Obj)) (s : Shared) (σ : St) (H : Hp) (vs : List V) (us : List Value) (Q : St → Hp → Prop), Inv X pins σ H s → Vals vs us → t vs σ H Q →
    wpAny (model X.prog X.w) X.A (assignInOrder ((assignEach ts X.env).map (·.2)) us) (fun _ s' => ∃ σ' H', Inv X pins σ' H' s' ∧ Q σ' H') X.xe s
abbrev TSet := V → V → V → Hp → (Hp → Prop) → Prop
def PSet (X : Cx) (t : TSet) : Prop :=
  ∀ (pins : List (Addr × Obj)) (s : Shared) (σ : St) (H : Hp) (o i v : V) (ov iv u : Value) (Q : Hp → Prop), Inv X pins σ H s → RelV o ov → RelV i iv → RelV v u → t o i v H Q →
    wpAny (model X.prog X.w) X.A (setItem ov iv u) (fun _ s' => ∃ H', Inv X pins σ H' s' ∧ Q H') X.xe s
abbrev TIp := V → V → Hp → VK → Prop
def PIp (X : Cx) (op : Operator) (t : TIp) : Prop :=
  ∀ (pins : List (Addr × Obj)) (s : Shared) (σ : St) (H : Hp) (x y : V) (v u : Value) (Q : VK), Inv X pins σ H s → RelV x v → RelV y u → t x y H Q →
    wpAny (model X.prog X.w) X.A (inplaceOp op v u) (EP X pins σ Q) X.xe s
section
variable {X : Cx} {pos : Pos}
def gName (i : Nat) : TG := fun v σ H Q => Q (σ.set i (some v)) H
theorem pg_name {i : Nat} {x : Str} (hN : X.N.Nodup) (hi : X.N[i]? = some x) (hx : Loc X.env.scope x) (hf : X.fn x = true ∨ X.env.scope.names.lookup x = some .local := by first | exact .inl rfl | exact .inr rfl | assumption) : PG X (.Name x pos) (gName i) := by
  intro pins s σ H v u Q I r h
  exact wpAny_assign_Name (store_ok I hN hi hx r (fun s' I' => ⟨_, H, I', h⟩) hf)
def gNil : TGs := fun vs σ H Q => vs = [] ∧ Q σ H
def gCons (t : TG) (u : TGs) : TGs := fun vs σ H Q => ∃ v r, vs = v :: r ∧ t v σ H fun σ' H' => u r σ' H' Q
theorem pgs_nil : PGs X [] gNil := by
  intro pins s σ H vs us Q I r h
  obtain ⟨e, h⟩ := h
  subst e
  cases r
  exact assignInOrder_nil ⟨σ, H, I, h⟩
theorem pgs_cons {e : Expr} {es : List Expr} {t : TG} {u : TGs} (h1 : PG X e t) (h2 : PGs X es u)
    (hs : (assignEach (e :: es) X.env).map (·.2) = assign e X.env :: (assignEach es X.env).map (·.2) := by rfl) : PGs X (e :: es) (gCons t u) := by
  intro pins s σ H vs us Q I r h
  obtain ⟨v, vr, e1, h⟩ := h
  subst e1
  cases r with
  | cons r rr =>
    rw [hs]
    refine assignInOrder_cons (thn (h1 pins s σ H _ _ _ I r h) fun _ s1 ⟨σ1, H1, I1, q1⟩ => ?_)
    exact h2 pins s1 σ1 H1 _ _ Q I1 rr q1
def gTup (K : PySem.W.Frag) (n : Nat) (t : TGs) : TG := fun v σ H Q => ∃ a xs, v = .ref a ∧ SqT K H a xs ∧ xs.length = n ∧ t xs σ H Q
theorem pg_tup {es : List Expr} {k : Nat} {t : TGs} {n : Nat} (hc : X.calm = true) (h : PGs X es t)
    (hn : (assignEach es X.env).length = n := by rfl) (hst : (assignEach es X.env).findIdx? (·.1) = none := by rfl) : PG X (.Tuple es k pos) (gTup X.K n t) := by
  intro pins s σ H v u Q I r hw
  obtain ⟨a, xs, e1, hq, hl, hw⟩ := hw
  subst e1
  cases r
  obtain ⟨its, rv, ht, hz⟩ := I.tuple hq
  refine assign_Tuple_tuple (I.ok.hd hc) ht (by simp [hn, ← hl, rv.length]) hst fun h' hx => ?_
  have I1 : Inv X pins σ H { s with heap := h' } := I.kept (t' := s.toks) fun b o e => hx b o (Nat.ne_of_lt (Heap.lt_size e)) e
  exact h pins _ σ H xs _ Q I1 (by simpa using rv) hw
def gSub (to ti : TE) (t : TSet) : TG := fun v σ H Q => to σ H fun o H1 => ti σ H1 fun i H2 => t o i v H2 fun H3 => Q σ H3
theorem pg_sub {o i : Expr} {to ti : TE} {t : TSet} (ho : PE X o to) (hi : PE X i ti) (hs : PSet X t)
    (ha : ∀ v, assign (.Subscript o i pos) X.env v = (do
      let ov ← holding [v] (eval o X.env)
      let iv ← holding [v, ov] (eval i X.env)
      standAt pos
      holding [v, ov, iv] (setItem ov iv v)
      release [v, ov, iv] []) := by intro _; rfl) : PG X (.Subscript o i pos) (gSub to ti t) := by
  intro pins s σ H v u Q I r h
  rw [ha]
  refine wpAny_bind (wpAny_holding (thn (ho pins s σ H _ I h) fun ov s1 ⟨x, H1, I1, r1, q1⟩ => ?_))
  refine wpAny_bind (wpAny_holding (thn (hi pins s1 σ H1 _ I1 q1) fun iv s2 ⟨y, H2, I2, r2, q2⟩ => ?_))
  refine wpAny_bind (wpAny_standAt (wpAny_bind (wpAny_holding (thn (hs pins s2 σ H2 x y v ov iv u _ I2 r1 r2 r q2) fun _ s3 ⟨H3, I3, q3⟩ => ?_))))
  exact wpAny_release ⟨σ, H3, I3, q3⟩
def tAsg (te : TE) (g : TG) : TS := fun D σ H => te σ H fun x H1 => g x σ H1 D.nx
theorem ps_asg {tg e : Expr} {te : TE} {g : TG} (he : PE X e te) (hg : PG X tg g) (hs : swapsWithSole [tg] e pos.line X.env = pure false := by rfl) (hw : swappedStores [tg] e X.env = pure none := by rfl)
    (h1 : (assignEach [tg] X.env).map (·.2) = [assign tg X.env] := by rfl) : PS X (.Assign [tg] e pos) (tAsg te g) := by
  intro pins s σ H D I h
  refine wpAny_Assign_stores (thn (he pins s σ H _ I h) fun v s1 ⟨x, H1, I1, r1, q1⟩ => ?_) hs hw
  rw [h1]
  exact thn (hg pins s1 σ H1 x v _ I1 r1 q1) fun _ s2 q => q
theorem ps_set {i : Nat} {x : Str} {e : Expr} {te : TE} {pos' : Pos} (hN : X.N.Nodup) (hi : X.N[i]? = some x) (hx : Loc X.env.scope x) (he : PE X e te) (hs : swapsWith e (some (.Name x pos')) pos.line X.env = pure false := by rfl) (hf : X.fn x = true ∨ X.env.scope.names.lookup x = some .local := by first | exact .inl rfl | exact .inr rfl | assumption) :
    PS X (.Assign [.Name x pos'] e pos) (tAsg te (gName i)) := by
  intro pins s σ H D I h
  refine wpAny_Assign_Name (thn (he pins s σ H _ I h) fun v s1 ⟨y, H1, I1, r1, q1⟩ => ?_) hs
  exact store_ok I1 hN hi hx r1 (fun s2 I2 => ⟨_, H1, I2, q1⟩) hf
def tPar (i j : Nat) (ta : TA) : TS := fun D σ H => ta σ H fun vs H1 => ∃ v w, vs = [v, w] ∧ D.nx ((σ.set i (some v)).set j (some w)) H1
theorem ps_par {i j : Nat} {x y : Str} {a b : Expr} {ta : TA} {px py pt : Pos} {kt k2 pt2} (hc : X.calm = true) (hN : X.N.Nodup) (hi : X.N[i]? = some x) (hj : X.N[j]? = some y) (hij : i ≠ j)
    (hx : X.env.scope.names.lookup x = some .local) (hy : X.env.scope.names.lookup y = some .local) (ha : PA X [a, b] ta)
    (hw : swappedStores [.Tuple [.Name x px, .Name y py] kt pt] (.Tuple [a, b] k2 pt2) X.env = pure (some [x, y]))
    (hs : swapsWithSole [.Tuple [.Name x px, .Name y py] kt pt] (.Tuple [a, b] k2 pt2) pos.line X.env = pure false := by rfl) :
    PS X (.Assign [.Tuple [.Name x px, .Name y py] kt pt] (.Tuple [a, b] k2 pt2) pos) (tPar i j ta) := by
  intro pins s σ H D I h
  rw [exec_Assign_arm]
  refine wpAny_bind (wpAny_standAt ?_)
  rw [hs]
  refine wpAny_bind (wpAny_pure ?_)
  rw [if_neg (by decide)]
  refine wpAny_bind (Tuple_ (thn (ha _ pins s σ H _ I h) fun us s1 ⟨vs, H1, I1, r1, q1⟩ => ?_))
  obtain ⟨v, w, e1, q1⟩ := q1
  subst e1
  obtain ⟨u1, u2, rfl, rv, rw'⟩ : ∃ u1 u2, us = [u1, u2] ∧ RelV v u1 ∧ RelV w u2 := by
    cases r1 with
    | cons p q =>
      cases q with
      | cons p' q' =>
        cases q'
        exact ⟨_, _, rfl, p, p'⟩
  refine wpAny_newObj_type ?_ (by show 2 ≤ sizeLine; decide)
  have I2 : Inv X pins σ H1 { s1 with heap := s1.heap.push { cls := .type "tuple", data := .seq [u1, u2].toArray } } := I1.kept (t' := s1.toks) fun b o e => Heap.get?_push_of_some _ e
  rw [hw]
  refine wpAny_bind (wpAny_pure ?_)
  show wpAny (model X.prog X.w) X.A (do rule "assign.swapped-stores"; let items ← unpackItems (.ref s1.heap.objs.size) 2 none; assignInOrder [fun v => bindName X.env y v, fun v => bindName X.env x v] items.reverse; pure Flow.next) _ _ _
  refine wpAny_bind (wpAny_rule (wpAny_bind (unpackItems_tuple (items := #[u1, u2]) (I.ok.hd hc) (IsTup.new s1.heap _) fun h' hx' => ?_)))
  have I3 := I2.kept (h' := h') (t' := s1.toks) fun b o e => hx' b o (Nat.ne_of_lt (Heap.lt_size e)) e
  show wpAny _ _ (assignInOrder [fun v => bindName X.env y v, fun v => bindName X.env x v] [u2, u1] >>= fun _ => pure Flow.next) _ _ _
  refine wpAny_bind (assignInOrder_cons (wpAny_bindName (store_ok I3 hN hj (.inl hy) rw' (fun s2 I4 => ?_) (.inr hy))))
  refine assignInOrder_cons (wpAny_bindName (store_ok I4 hN hi (.inl hx) rv (fun s3 I5 => assignInOrder_nil (wpAny_pure ?_)) (.inr hx)))
  rw [List.set_comm _ _ (Ne.symm hij)] at I5
  exact ⟨_, H1, I5, q1⟩
def tAug (i : Nat) (te : TE) (ti : TIp) : TS := fun D σ H => ∃ x, σ[i]? = some (some x) ∧ te σ H fun y H1 => ti x y H1 fun z H2 => D.nx (σ.set i (some z)) H2
theorem ps_aug {i : Nat} {x : Str} {e : Expr} {te : TE} {op : Operator} {ti : TIp} {pos' : Pos} (hN : X.N.Nodup) (hi : X.N[i]? = some x) (hx : Loc X.env.scope x) (he : PE X e te) (ho : PIp X op ti) (hf : X.fn x = true ∨ X.env.scope.names.lookup x = some .local := by first | exact .inl rfl | exact .inr rfl | assumption) :
    PS X (.AugAssign (.Name x pos') op e pos) (tAug i te ti) := by
  intro pins s σ H D I h
  obtain ⟨v, e1, h⟩ := h
  obtain ⟨m, hn, hl⟩ := I.loc
  have vis : Vis X.env.scope x := by rcases hx with k | k; exact .inl k; exact .inr (.inl k)
  obtain ⟨u, r, l⟩ := hl i x v hi e1 vis
  refine wpAny_AugAssign_Name ?_
  have go : wpAny (model X.prog X.w) X.A (eval e X.env) (fun w s₂ => wpAny (model X.prog X.w) X.A (inplaceOp op u w) (fun r s₃ => wpAny (model X.prog X.w) X.A (storeName X.env x r) (fun _ => SP X pins D .next) X.xe s₃) X.xe s₂) X.xe s := by
    refine thn (he pins s σ H _ I h) fun w s1 ⟨y, H1, I1, r1, q1⟩ => ?_
    refine thn (ho pins s1 σ H1 v y u w _ I1 r r1 q1) fun z s2 ⟨zv, H2, I2, r2, q2⟩ => ?_
    exact store_ok I2 hN hi hx r2 (fun s3 I3 => ⟨_, H2, I3, q2⟩) hf
  rcases l with ⟨hk, hm⟩ | ⟨hk, c, hc, hcell⟩
  · exact wpAny_loadName_local I.ok.kind hk hn hm go
  · rcases hk with hk | hk
    · exact wpAny_loadName_cell I.ok.kind hk hc hcell go
    · rcases hx with k | k
      · have : X.env.scope.names.lookup x = some .free := hk
        rw [k] at this; cases this
      · have : X.env.scope.names.lookup x = some .free := hk
        rw [k] at this; cases this
def ipI (f : Int → Int → Int) : TIp := fun x y H Q => ∃ i j, x = .int i ∧ y = .int j ∧ Q (.int (f i j)) H
theorem ip_add : PIp X .Add (ipI fun i j => i + j) := by
  intro pins s σ H x y v u Q I r1 r2 h
  obtain ⟨i, j, e1, e2, q⟩ := h
  subst e1; subst e2
  obtain ⟨t, rfl⟩ := r1
  obtain ⟨t', rfl⟩ := r2
  exact iadd_int ⟨.int _, H, I.tok _, ⟨_, rfl⟩, q⟩
end
section
variable {X : Cx} {pos : Pos}
def tWhile (c : TT) (tb : TS) : TS := fun D σ H => ∃ W : Nat → St → Hp → Prop, (∃ m, W m σ H) ∧ ∀ m σ H, W m σ H →
  c σ H fun b H1 => if b = true then ∃ N : St → Hp → Prop, (∀ σ' H', N σ' H' → ∃ m', m' < m ∧ W m' σ' H') ∧ tb { D with nx := N, ct := N, bk := D.nx } σ H1 else D.nx σ H1
theorem ps_while {c : Expr} {body : List Stmt} {tc : TT} {tb : TS} (hp : PassesOwn (model X.prog X.w) X.A X.env X.xe) (hc : PT X c tc) (hb : PSs X body tb) : PS X (.While c body [] pos) (tWhile tc tb) := by
  intro pins s σ H D I h
  obtain ⟨W, ⟨m0, w0⟩, turn⟩ := h
  refine wpAny_While (codeAny_whileLoop (fun n s' => ∃ σ' H', Inv X pins σ' H' s' ∧ W n σ' H') ?_ m0 ⟨σ, H, I, w0⟩)
  rintro n s1 ⟨σ1, H1, I1, w1⟩
  refine wpAny_passesOwn hp (thn (hc pins s1 σ1 H1 _ I1 (turn n σ1 H1 w1)) fun b s2 ⟨H2, I2, q2⟩ => ?_)
  cases b with
  | true =>
    obtain ⟨N, hN, q2⟩ := q2
    rw [if_pos rfl]
    refine wpAny_passesOwn hp (thn (hb pins s2 σ1 H2 _ I2 q2) fun f s3 q3 => ?_)
    cases f with
    | next =>
      obtain ⟨σ3, H3, I3, n3⟩ := q3
      obtain ⟨m', hm, w3⟩ := hN σ3 H3 n3
      exact ⟨m', hm, σ3, H3, I3, w3⟩
    | cont =>
      obtain ⟨σ3, H3, I3, n3⟩ := q3
      obtain ⟨m', hm, w3⟩ := hN σ3 H3 n3
      exact ⟨m', hm, σ3, H3, I3, w3⟩
    | brk => exact q3
    | ret v => exact q3
  | false =>
    rw [if_neg Bool.false_ne_true]
    exact wpAny_execs_nil ⟨σ1, H2, I2, q2⟩
end
structure It where
  go : Nat → Hp → Prop
  yld : Nat → Hp → V → Hp → Prop
  stop : Nat → Hp → Prop
def FpOk (X : Cx) (pins : List (Addr × Obj)) (H : Hp) (b : Addr) : Prop :=
  H b = none ∧ b ≠ X.env.locals ∧ b ∉ X.fs ∧ (b ∈ X.ex ∨ X.s₀.heap.objs.size ≤ b) ∧ (∀ x c, X.env.cells.lookup x = some c → c ≠ b) ∧ ∀ p ∈ X.pn ++ pins, p.1 ≠ b
theorem Inv.fpOk {X : Cx} {pins : List (Addr × Obj)} {σ : St} {H H' : Hp} {s : Shared} {b : Addr} (I : Inv X pins σ H s) (hb : s.heap.objs.size ≤ b) (hn : H' b = none) : FpOk X pins H' b := by
  refine ⟨hn, Nat.ne_of_gt (Nat.lt_of_lt_of_le I.lt hb), I.nofs hb, .inr (Nat.le_trans I.sz hb), fun x c e z => ?_, fun p hp z => ?_⟩
  · obtain ⟨v, q⟩ := I.cell x c e
    exact absurd (Nat.lt_of_lt_of_le q.lt (by rw [z]; exact hb)) (Nat.lt_irrefl _)
  · exact absurd (Nat.lt_of_lt_of_le (Heap.lt_size (I.pin p hp).1) (by rw [z]; exact hb)) (Nat.lt_irrefl _)
structure Turn (P : Program) (w : World) (K : PySem.W.Frag) (tg : Expr) (J : It) (fp : List Addr) (it : Addr) (tn : Nat → Heap → Prop) : Prop where
  mem : it ∈ fp
  obj : ∀ i h, tn i h → ∀ b ∈ fp, ∃ o, h.get? b = some o ∧ ∀ v, o.data ≠ .cell v
  keep : ∀ i h h', tn i h → (∀ b ∈ fp, ∀ o, h.get? b = some o → h'.get? b = some o) → tn i h'
  item : ∀ (X : Cx), X.prog = P → X.w = w → X.K = K → X.calm = true → ∀ (i : Nat) (pins : List (Addr × Obj)) (s : Shared) (σ : St) (H : Hp) (E : Value → Shared → Prop), Inv X pins σ H s → (∀ b ∈ fp, FpOk X pins H b) → tn i s.heap → J.go i H →
    wpAny (model P w) X.A (pyNext (.ref it)) (fun r s1 => ∃ u, r = some u ∧
      wpAny (model P w) X.A (letOwnedTupleGo tg (.ref it) u) (fun _ s2 => ∃ x H', Inv X pins σ H' s2 ∧ RelV x u ∧ J.yld i H x H' ∧ tn (i + 1) s2.heap ∧ ∀ b ∈ fp, H' b = none) E s1) E s
  done : ∀ (X : Cx), X.prog = P → X.w = w → X.K = K → X.calm = true → ∀ (i : Nat) (pins : List (Addr × Obj)) (s : Shared) (σ : St) (H : Hp) (E : Value → Shared → Prop), Inv X pins σ H s → (∀ b ∈ fp, FpOk X pins H b) → tn i s.heap → J.stop i H →
    wpAny (model P w) X.A (pyNext (.ref it)) (fun r s1 => r = none ∧ Inv X pins σ H s1) E s
  self : ∀ (A : Around) (i : Nat) (s : Shared) (Q : Value → Shared → Prop) (E : Value → Shared → Prop), tn i s.heap → Q (.ref it) s → wpAny (model P w) A (pyIter (.ref it)) Q E s
abbrev TI := St → Hp → (It → Hp → Prop) → Prop
def PIE (X : Cx) (pins : List (Addr × Obj)) (σ : St) (tg : Expr) (R : It → Hp → Prop) (itv : Value) (s2 : Shared) : Prop :=
  ∃ (it : Addr) (fp : List Addr) (tn : Nat → Heap → Prop) (J : It) (H' : Hp), itv = .ref it ∧ Inv X pins σ H' s2 ∧ Turn X.prog X.w X.K tg J fp it tn ∧ tn 0 s2.heap ∧ (∀ b ∈ fp, FpOk X pins H' b) ∧ R J H'
def PI (X : Cx) (tg iter : Expr) (wi : TI) : Prop :=
  ∀ (pins : List (Addr × Obj)) (s : Shared) (σ : St) (H : Hp) (R : It → Hp → Prop), Inv X pins σ H s → wi σ H R →
    wpAny (model X.prog X.w) X.A (eval iter X.env) (fun v s1 => wpAny (model X.prog X.w) X.A (pyIter v) (PIE X pins σ tg R) X.xe s1) X.xe s
theorem go_of {M : Model} {A : Around} {E : Value → Shared → Prop} {s : Shared} {tg : Expr} {it : Addr} {u : Value} {o : Obj} {n : String} {vs : Array Value} {Q : Unit → Shared → Prop} (ho : s.heap.get? it = some o) (hc : o.cls = .type n) (hd : o.data = .fields vs)
    (hn : ["enumerate", "zip", "dict_itemiterator", "dict_reverseitemiterator", "odict_iterator", "itertools.zip_longest", "itertools.pairwise"].contains n = false) (hQ : Q () s) : wpAny M A (letOwnedTupleGo tg (.ref it) u) Q E s := by
  unfold letOwnedTupleGo
  cases tg <;> first
    | exact wpAny_pure hQ
    | (cases u <;> first
        | exact wpAny_pure hQ
        | (refine wpAny_bind (wpAny_load ho ?_)
           rw [hc, hd]
           show wpAny M A (if (["enumerate", "zip", "dict_itemiterator", "dict_reverseitemiterator", "odict_iterator", "itertools.zip_longest", "itertools.pairwise"].contains n && vs[0]? == some (rawInt _)) = true then _ else _) Q E s
           rw [if_neg (by intro h; rw [hn, Bool.false_and] at h; cases h)]
           exact wpAny_pure hQ))
def Itl (K : PySem.W.Frag) (a : Addr) : It :=
  ⟨fun i H => ∃ xs x, SqL K H a xs ∧ xs[i]? = some x, fun i H x H' => H' = H ∧ ∀ xs, SqL K H a xs → xs[i]? = some x, fun i H => ∃ xs, SqL K H a xs ∧ xs.length ≤ i⟩
def Itr (lo : Int) (n : Nat) : It := ⟨fun i _ => i < n, fun i H x H' => H' = H ∧ x = .int (lo + i), fun i _ => n ≤ i⟩
theorem turn_list {P : Program} {w : World} {K : PySem.W.Frag} {tg : Expr} (a it : Addr) : Turn P w K tg (Itl K a) [it] it (fun i h => h.IsListIter it a i) where
  mem := by simp
  obj := fun i h st b hb => by
    have e : b = it := by simpa using hb
    subst e
    obtain ⟨o, e, c, d⟩ := st
    exact ⟨o, e, fun v z => by rw [d] at z; cases z⟩
  keep := fun i h h' st k => st.at fun o e => k it (by simp) o e
  item := by
    intro X hP hw hK hc i pins s σ H E I hf st hg
    subst hP hw hK
    obtain ⟨xs, x, hq, hx⟩ := hg
    obtain ⟨its, rv, p, hz⟩ := I.list hq
    obtain ⟨u, hu, ru⟩ := rv.get hx
    obtain ⟨f0, f1, f2, f3, f4, f5⟩ := hf it (by simp)
    refine wpAny_pyNext_list_item st p.isList (x := u) (by simpa using hu) fun h' st' sb => ?_
    have I1 : Inv X pins σ H { s with heap := h' } := I.turned (t' := s.toks) (fun b o hb e => (sb.2 b hb).trans e) f0 f1 f3 f4 f5
    obtain ⟨o, e, c, d⟩ := id st'
    exact ⟨u, rfl, go_of (s := { s with heap := h' }) e c d (by decide) ⟨x, H, I1, ru, ⟨rfl, fun ys hy => by rw [I.list_inj hy hq]; exact hx⟩, st', fun b hb => (hf b hb).1⟩⟩
  done := by
    intro X hP hw hK hc i pins s σ H E I hf st hg
    subst hP hw hK
    obtain ⟨xs, hq, hx⟩ := hg
    obtain ⟨its, rv, p, hz⟩ := I.list hq
    obtain ⟨f0, f1, f2, f3, f4, f5⟩ := hf it (by simp)
    have hl := rv.length
    exact wpAny_pyNext_list_end (I.ok.hd hc) st p.isList (by simp; omega) fun h' eb => ⟨rfl, I.turned (t' := s.toks) (fun b o hb e => eb b o hb e) f0 f1 f3 f4 f5⟩
  self := fun _ _ _ _ _ st h => wpAny_pyIter_listiter st h
theorem turn_range {P : Program} {w : World} {K : PySem.W.Frag} {tg : Expr} (it : Addr) (lo : Int) (n : Nat) : Turn P w K tg (Itr lo n) [it] it (fun i h => IsRangeIter h it (lo + (i : Nat) * 1) ((n : Int) - (i : Nat)) 1) where
  mem := by simp
  obj := fun i h st b hb => by
    have e : b = it := by simpa using hb
    subst e
    exact ⟨_, st, fun v z => by
      have z' : Data.fields _ = Data.cell v := z
      cases z'⟩
  keep := fun i h h' st k => k it (by simp) _ st
  item := by
    intro X hP hw hK hc i pins s σ H E I hf st hg
    subst hP hw hK
    obtain ⟨f0, f1, f2, f3, f4, f5⟩ := hf it (by simp)
    have W := Walks.range (prog := X.prog) (w := X.w) (I.ok.hd hc) it lo 1 n
    refine W.item i s _ _ hg st fun v h' tk hv st' kk => ?_
    obtain ⟨t, rfl⟩ := hv
    have I1 : Inv X pins σ H { s with heap := h', toks := tk } := I.turned (fun b o hb e => kk b o (by simpa using hb) e) f0 f1 f3 f4 f5
    refine ⟨_, rfl, go_of (s := { s with heap := h', toks := tk }) (n := "range_iterator") st' rfl rfl (by decide) ⟨.int (lo + i), H, I1, ⟨t, ?_⟩, ⟨rfl, rfl⟩, st', fun b hb => (hf b hb).1⟩⟩
    rw [Int.mul_one]
  done := by
    intro X hP hw hK hc i pins s σ H E I hf st hg
    subst hP hw hK
    obtain ⟨f0, f1, f2, f3, f4, f5⟩ := hf it (by simp)
    exact wpAny_pyNext_range_end (I.ok.hd hc) st (by have : n ≤ i := hg; omega) fun h' eb => ⟨rfl, I.turned (t' := s.toks) (fun b o hb e => eb b o hb e) f0 f1 f3 f4 f5⟩
  self := fun _ _ _ _ _ st h => wpAny_pyIter_rangeiter st h
end L2
namespace L2
open PySem PySem.Spec PyProof.Rows
section
variable {X : Cx} {tg : Expr}
def iList (K : PySem.W.Frag) (tl : TE) : TI := fun σ H R => tl σ H fun x H1 => ∃ a, x = .ref a ∧ (∃ xs, SqL K H1 a xs) ∧ R (Itl K a) H1
theorem pi_list {l : Expr} {tl : TE} (hl : PE X l tl) : PI X tg l (iList X.K tl) := by
  intro pins s σ H R I h
  refine thn (hl pins s σ H _ I h) fun v s1 ⟨x, H1, I1, r1, q1⟩ => ?_
  obtain ⟨a, e, ⟨xs, hq⟩, q⟩ := q1
  subst e
  cases r1
  obtain ⟨its, rv, p, hz⟩ := I1.list hq
  refine wpAny_pyIter_list p.isList ?_
  refine ⟨s1.heap.objs.size, [s1.heap.objs.size], _, _, H1, rfl, I1.kept (t' := s1.toks) fun b o e => Heap.get?_push_of_some _ e, turn_list a _, ⟨_, Heap.get?_push_size _ rfl, rfl, rfl⟩, fun b hb => ?_, q⟩
  have e : b = s1.heap.objs.size := by simpa using hb
  subst e
  exact I1.fpOk (Nat.le_refl _) (I1.hok.fresh (Nat.le_refl _))
theorem range_it {pins : List (Addr × Obj)} {σ : St} {H : Hp} {s : Shared} {R : It → Hp → Prop} {E : Value → Shared → Prop} {lo hi : Int} {t u v : Tok} {tk : Nat} (I : Inv X pins σ H s) (h1 : -(2 ^ 62) ≤ lo) (h2 : lo < 2 ^ 62) (h3 : -(2 ^ 62) ≤ hi) (h4 : hi < 2 ^ 62)
    (q : R (Itr lo (hi - lo).toNat) H) : wpAny (model X.prog X.w) X.A (pyIter (.ref s.heap.objs.size)) (PIE X pins σ tg R) E { s with heap := s.heap.push { cls := .type "range", data := .fields #[.int lo t, .int hi u, .int 1 v] }, toks := tk } := by
  refine wpAny_pyIter_range (IsRange.new ..) (small_one h1 h2 h3 h4) ?_
  have I1 : Inv X pins σ H { s with heap := s.heap.push { cls := .type "range", data := .fields #[.int lo t, .int hi u, .int 1 v] }, toks := tk } := I.kept fun b o e => Heap.get?_push_of_some _ e
  refine ⟨(s.heap.push { cls := .type "range", data := .fields #[.int lo t, .int hi u, .int 1 v] }).objs.size, [(s.heap.push { cls := .type "range", data := .fields #[.int lo t, .int hi u, .int 1 v] }).objs.size], _, _, H, rfl,
    I1.kept (t' := tk) fun b o e => Heap.get?_push_of_some _ e, turn_range _ lo (hi - lo).toNat, ?_, fun b hb => ?_, q⟩
  · have e1 : lo + ((0 : Nat) : Int) * 1 = lo := by simp
    have e2 : (((hi - lo).toNat : Nat) : Int) - ((0 : Nat) : Int) = Builtin.Range.rangeSize lo hi 1 := by rw [rangeSize_one]; split <;> omega
    show IsRangeIter _ _ (lo + ((0 : Nat) : Int) * 1) ((((hi - lo).toNat : Nat) : Int) - ((0 : Nat) : Int)) 1
    rw [e1, e2]
    exact Heap.get?_push_size _ rfl
  · have e : b = (s.heap.push { cls := .type "range", data := .fields #[.int lo t, .int hi u, .int 1 v] }).objs.size := by simpa using hb
    subst e
    exact I1.fpOk (Nat.le_refl _) (I1.hok.fresh (Nat.le_refl _))
def iRng1 (ta : TA) : TI := fun σ H R => ta σ H fun vs H1 => ∃ j : Int, vs = [.int j] ∧ -(2 ^ 62) ≤ j ∧ j < 2 ^ 62 ∧ R (Itr 0 j.toNat) H1
def iRng2 (ta : TA) : TI := fun σ H R => ta σ H fun vs H1 => ∃ i j : Int, vs = [.int i, .int j] ∧ (-(2 ^ 62) ≤ i ∧ i < 2 ^ 62 ∧ -(2 ^ 62) ≤ j ∧ j < 2 ^ 62) ∧ R (Itr i (j - i).toNat) H1
theorem pi_range1 {a : Expr} {ta : TA} {p pos : Pos} (hg : Gl X "range") (hm : X.mg "range" = none) (ha : PA X [a] ta) (hs : starEach [a] X.env = [(false, eval a X.env)] := by rfl) : PI X tg (.Call (.Name "range" p) [a] [] pos) (iRng1 ta) := by
  intro pins s σ H R I h
  refine Call_ (ld_blt I hg hm boot_range (PyProof.Rows.callWith_type1 (thn (ha pos pins s σ H _ I h) fun us s1 ⟨vs, H1, I1, r1, q1⟩ => ?_) hs rfl))
  obtain ⟨j, e, q1, q2, q⟩ := q1
  subst e
  cases r1 with
  | cons r rr =>
    cases rr
    obtain ⟨t, rfl⟩ := r
    exact call_range_1 (range_it I1 (by omega) (by omega) q1 q2 (by simpa using q))
theorem pi_range2 {a b : Expr} {ta : TA} {p pos : Pos} (hg : Gl X "range") (hm : X.mg "range" = none) (ha : PA X [a, b] ta) (hs : starEach [a, b] X.env = [(false, eval a X.env), (false, eval b X.env)] := by rfl) (hs2 : starEach [b] X.env = [(false, eval b X.env)] := by rfl) :
    PI X tg (.Call (.Name "range" p) [a, b] [] pos) (iRng2 ta) := by
  intro pins s σ H R I h
  refine Call_ (ld_blt I hg hm boot_range (PyProof.Rows.callWith_type1 (thn (ha pos pins s σ H _ I h) fun us s1 ⟨vs, H1, I1, r1, q1⟩ => ?_) (by rw [hs, hs2]) (by rw [hs2]; rfl)))
  obtain ⟨i, j, e, ⟨q1, q2, q3, q4⟩, q⟩ := q1
  subst e
  cases r1 with
  | cons r rr =>
    cases rr with
    | cons r' rr =>
      cases rr
      obtain ⟨t, rfl⟩ := r
      obtain ⟨t', rfl⟩ := r'
      exact call_range_2 (range_it I1 q1 q2 q3 q4 q)
def tFor (wi : TI) (g : TG) (tb : TS) : TS := fun D σ H => wi σ H fun J H1 => ∃ W : Nat → Nat → St → Hp → Prop, (∃ m, W 0 m σ H1) ∧ ∀ i m σ H, W i m σ H →
  (J.stop i H ∧ D.nx σ H) ∨ (J.go i H ∧ ∃ N : St → Hp → Prop, (∀ σ' H', N σ' H' → ∃ m', m' < m ∧ W (i + 1) m' σ' H') ∧ ∀ x H', J.yld i H x H' → g x σ H' fun σ2 H2 => tb { D with nx := N, ct := N, bk := D.nx } σ2 H2)
def pinsAt (fp : List Addr) (h : Heap) : List (Addr × Obj) := fp.filterMap fun b => (h.get? b).map fun o => (b, o)
theorem mem_pinsAt {fp : List Addr} {h : Heap} {b : Addr} {o : Obj} (hb : b ∈ fp) (e : h.get? b = some o) : (b, o) ∈ pinsAt fp h := List.mem_filterMap.mpr ⟨b, hb, by rw [e]; rfl⟩
theorem of_pinsAt {fp : List Addr} {h : Heap} {p : Addr × Obj} (hp : p ∈ pinsAt fp h) : p.1 ∈ fp ∧ h.get? p.1 = some p.2 := by
  obtain ⟨b, hb, e⟩ := List.mem_filterMap.mp hp
  cases q : h.get? b with
  | none => rw [q] at e; cases e
  | some o =>
    rw [q] at e
    have e' : (b, o) = p := Option.some.inj e
    subst e'
    exact ⟨hb, q⟩
theorem Inv.pinned {pins : List (Addr × Obj)} {σ : St} {H : Hp} {s : Shared} {fp : List Addr} (I : Inv X pins σ H s) (hf : ∀ b ∈ fp, FpOk X pins H b) (ho : ∀ b ∈ fp, ∃ o, s.heap.get? b = some o ∧ ∀ v, o.data ≠ .cell v) : Inv X (pins ++ pinsAt fp s.heap) σ H s :=
  I.pins_of fun p hp => (List.mem_append.mp hp).elim (fun z => I.pin p (List.mem_append_right _ z)) fun z => by
    obtain ⟨hb, e⟩ := of_pinsAt z
    obtain ⟨f0, f1, f2, _⟩ := hf p.1 hb
    obtain ⟨o, e', d⟩ := ho p.1 hb
    rw [e] at e'; cases e'
    exact ⟨e, f0, f1, f2, d⟩
theorem Inv.unpinned {pins pl : List (Addr × Obj)} {σ : St} {H : Hp} {s : Shared} (I : Inv X (pins ++ pl) σ H s) : Inv X pins σ H s := I.pins_of fun p hp => I.pin p (List.mem_append_right _ (List.mem_append_left _ hp))
theorem ps_for {iter : Expr} {body : List Stmt} {wi : TI} {g : TG} {tb : TS} {pos : Pos} (hp : PassesOwn (model X.prog X.w) X.A X.env X.xe) (hc : X.calm = true) (hi : PI X tg iter wi) (hg : PG X tg g) (hb : PSs X body tb)
    (hs : ∀ x, foldedSetIterable iter X.env x = pure x := by intro _; rfl) : PS X (.For tg iter body [] pos) (tFor wi g tb) := by
  intro pins s σ H D I h
  refine wpAny_For (thn (hi pins s σ H _ I h) fun v s1 h1 => thn h1 fun itv s2 h2 => ?_) hs
  obtain ⟨it, fp, tn, J, H2, e, I2, T, st2, f2, W, ⟨m0, w0⟩, turn⟩ := h2
  subst e
  have stat : ∀ {H' : Hp}, (∀ b ∈ fp, H' b = none) → ∀ b ∈ fp, FpOk X pins H' b := fun hn b hb => ⟨hn b hb, (f2 b hb).2⟩
  refine codeAny_forLoop_any (fun n s' => ∃ i σ' H', Inv X pins σ' H' s' ∧ tn i s'.heap ∧ (∀ b ∈ fp, H' b = none) ∧ W i n σ' H') ?_ m0 ⟨0, σ, H2, I2, st2, fun b hb => (f2 b hb).1, w0⟩
  rintro n s3 ⟨i, σ3, H3, I3, st3, fr3, w3⟩
  rcases turn i n σ3 H3 w3 with ⟨stop, qn⟩ | ⟨go, N, hN, step⟩
  · refine wpAny_passesOwn hp (thn (T.done X rfl rfl rfl hc i pins s3 σ3 H3 X.xe I3 (stat fr3) st3 stop) fun r s4 ⟨hr, I4⟩ => ?_)
    subst hr
    exact wpAny_execs_nil ⟨σ3, H3, I4, qn⟩
  · refine wpAny_passesOwn hp (thn (T.item X rfl rfl rfl hc i pins s3 σ3 H3 X.xe I3 (stat fr3) st3 go) fun r s4 ⟨u, hr, h4⟩ => ?_)
    subst hr
    refine wpAny_passesOwn hp (thn h4 fun _ s5 ⟨x, H5, I5, r5, y5, st5, fr5⟩ => ?_)
    have I5' := I5.pinned (stat fr5) (T.obj _ _ st5)
    refine wpAny_passesOwn hp (thn (hg _ s5 σ3 H5 x u _ I5' r5 (step x H5 y5)) fun _ s6 ⟨σ6, H6, I6, q6⟩ => ?_)
    refine wpAny_passesOwn hp (thn (hb _ s6 σ6 H6 _ I6 q6) fun f s7 q7 => ?_)
    have again : ∀ {σ7 : St} {H7 : Hp}, Inv X (pins ++ pinsAt fp s5.heap) σ7 H7 s7 → N σ7 H7 → ∃ m, m < n ∧ ∃ i σ' H', Inv X pins σ' H' s7 ∧ tn i s7.heap ∧ (∀ b ∈ fp, H' b = none) ∧ W i m σ' H' := fun {σ7 H7} I7 n7 => by
      obtain ⟨m', hm, w7⟩ := hN σ7 H7 n7
      refine ⟨m', hm, i + 1, σ7, H7, I7.unpinned, T.keep _ _ _ st5 fun b hb o e => (I7.pin (b, o) (List.mem_append_right _ (List.mem_append_right _ (mem_pinsAt hb e)))).1, fun b hb => ?_, w7⟩
      obtain ⟨o, e, d⟩ := T.obj _ _ st5 b hb
      exact (I7.pin (b, o) (List.mem_append_right _ (List.mem_append_right _ (mem_pinsAt hb e)))).2.1
    cases f with
    | next => obtain ⟨σ7, H7, I7, n7⟩ := q7; exact again I7 n7
    | cont => obtain ⟨σ7, H7, I7, n7⟩ := q7; exact again I7 n7
    | brk => obtain ⟨σ7, H7, I7, q7⟩ := q7; exact ⟨σ7, H7, I7.unpinned, q7⟩
    | ret v => obtain ⟨x7, σ7, H7, I7, r7, q7⟩ := q7; exact ⟨x7, σ7, H7, I7.unpinned, r7, q7⟩
end
theorem for_list {K : PySem.W.Frag} {a : Addr} {xs : List V} {g : TG} {tb : TS} {D : Ends} {σ : St} {H : Hp} (Pv : Nat → St → Hp → Prop) (h0 : Pv 0 σ H) (hl : ∀ i σ H, i ≤ xs.length → Pv i σ H → SqL K H a xs)
    (hs : ∀ i x σ H, xs[i]? = some x → Pv i σ H → g x σ H fun σ2 H2 => tb { D with nx := Pv (i + 1), ct := Pv (i + 1), bk := D.nx } σ2 H2) (hd : ∀ σ H, Pv xs.length σ H → D.nx σ H) :
    ∃ W : Nat → Nat → St → Hp → Prop, (∃ m, W 0 m σ H) ∧ ∀ i m σ H, W i m σ H →
      ((Itl K a).stop i H ∧ D.nx σ H) ∨ ((Itl K a).go i H ∧ ∃ N : St → Hp → Prop, (∀ σ' H', N σ' H' → ∃ m', m' < m ∧ W (i + 1) m' σ' H') ∧ ∀ x H', (Itl K a).yld i H x H' → g x σ H' fun σ2 H2 => tb { D with nx := N, ct := N, bk := D.nx } σ2 H2) := by
  refine ⟨fun i m σ H => m = xs.length - i ∧ i ≤ xs.length ∧ Pv i σ H, ⟨xs.length, by simp, Nat.zero_le _, h0⟩, ?_⟩
  rintro i m σ H ⟨rfl, hi, p⟩
  have q := hl i σ H hi p
  by_cases hlt : i < xs.length
  · refine .inr ⟨⟨xs, xs[i], q, by simp [hlt]⟩, Pv (i + 1), fun σ' H' p' => ⟨xs.length - (i + 1), by omega, rfl, hlt, p'⟩, fun x H' y => ?_⟩
    obtain ⟨e, y⟩ := y
    subst e
    exact hs i x σ _ (y xs q) p
  · have e : i = xs.length := by omega
    subst e
    exact .inl ⟨⟨xs, q, Nat.le_refl _⟩, hd σ H p⟩
theorem for_range {lo : Int} {n : Nat} {g : TG} {tb : TS} {D : Ends} {σ : St} {H : Hp} (Pv : Nat → St → Hp → Prop) (h0 : Pv 0 σ H)
    (hs : ∀ i σ H, i < n → Pv i σ H → g (.int (lo + i)) σ H fun σ2 H2 => tb { D with nx := Pv (i + 1), ct := Pv (i + 1), bk := D.nx } σ2 H2) (hd : ∀ σ H, Pv n σ H → D.nx σ H) :
    ∃ W : Nat → Nat → St → Hp → Prop, (∃ m, W 0 m σ H) ∧ ∀ i m σ H, W i m σ H →
      ((Itr lo n).stop i H ∧ D.nx σ H) ∨ ((Itr lo n).go i H ∧ ∃ N : St → Hp → Prop, (∀ σ' H', N σ' H' → ∃ m', m' < m ∧ W (i + 1) m' σ' H') ∧ ∀ x H', (Itr lo n).yld i H x H' → g x σ H' fun σ2 H2 => tb { D with nx := N, ct := N, bk := D.nx } σ2 H2) := by
  refine ⟨fun i m σ H => m = n - i ∧ i ≤ n ∧ Pv i σ H, ⟨n, by simp, Nat.zero_le _, h0⟩, ?_⟩
  rintro i m σ H ⟨rfl, hi, p⟩
  by_cases hlt : i < n
  · refine .inr ⟨hlt, Pv (i + 1), fun σ' H' p' => ⟨n - (i + 1), by omega, rfl, hlt, p'⟩, fun x H' y => ?_⟩
    obtain ⟨e, y⟩ := y
    subst e y
    exact hs i σ _ hlt p
  · have e : i = n := by omega
    subst e
    exact .inl ⟨Nat.le_refl _, hd σ H p⟩
theorem while_by {c : TT} {tb : TS} {D : Ends} {σ : St} {H : Hp} (Pv : St → Hp → Prop) (μ : St → Hp → Nat) (h0 : Pv σ H)
    (hs : ∀ σ H, Pv σ H → c σ H fun b H1 => if b = true then tb { D with nx := fun σ' H' => Pv σ' H' ∧ μ σ' H' < μ σ H, ct := fun σ' H' => Pv σ' H' ∧ μ σ' H' < μ σ H, bk := D.nx } σ H1 else D.nx σ H1)
    (mono : ∀ σ H Q Q', (∀ b H1, Q b H1 → Q' b H1) → c σ H Q → c σ H Q') : tWhile c tb D σ H := by
  refine ⟨fun m σ H => m = μ σ H ∧ Pv σ H, ⟨_, rfl, h0⟩, ?_⟩
  rintro m σ H ⟨rfl, p⟩
  refine mono σ H _ _ (fun b H1 q => ?_) (hs σ H p)
  cases b with
  | true => exact ⟨_, fun σ' H' ⟨p', l⟩ => ⟨_, l, rfl, p'⟩, q⟩
  | false => exact q
end L2
namespace L2
open PySem PySem.Spec PyProof.Rows
abbrev R2 := V → V → Hp → VK → Prop
def OpR (X : Cx) (f : Value → Value → Sem Value) (r : R2) : Prop :=
  ∀ (pins : List (Addr × Obj)) (s : Shared) (σ : St) (H : Hp) (x y : V) (v u : Value) (Q : VK), Inv X pins σ H s → RelV x v → RelV y u → r x y H Q →
    wpAny (model X.prog X.w) X.A (f v u) (EP X pins σ Q) X.xe s
def UnR (X : Cx) (f : Value → Sem Value) (r : V → Hp → VK → Prop) : Prop :=
  ∀ (pins : List (Addr × Obj)) (s : Shared) (σ : St) (H : Hp) (x : V) (v : Value) (Q : VK), Inv X pins σ H s → RelV x v → r x H Q →
    wpAny (model X.prog X.w) X.A (f v) (EP X pins σ Q) X.xe s
def CallR (X : Cx) (f : Value) (r : List V → Hp → VK → Prop) : Prop :=
  ∀ (pins : List (Addr × Obj)) (s : Shared) (σ : St) (H : Hp) (xs : List V) (us : List Value) (Q : VK), Inv X pins σ H s → Vals xs us → r xs H Q →
    wpAny (model X.prog X.w) X.A (call f us) (EP X pins σ Q) X.xe s
def tOp (r : R2) (ta tb : TE) : TE := fun σ H Q => ta σ H fun x H1 => tb σ H1 fun y H2 => r x y H2 Q
def tUn (r : V → Hp → VK → Prop) (ta : TE) : TE := fun σ H Q => ta σ H fun x H1 => r x H1 Q
def rI (C : Int → Int → Prop) (g : Int → Int → V) : R2 := fun x y H Q => ∃ i j, x = .int i ∧ y = .int j ∧ C i j ∧ Q (g i j) H
def rI0 (g : Int → Int → V) : R2 := fun x y H Q => ∃ i j, x = .int i ∧ y = .int j ∧ Q (g i j) H
def rU (g : Int → V) : V → Hp → VK → Prop := fun x H Q => ∃ i, x = .int i ∧ Q (g i) H
section
variable {X : Cx} {a b c : Expr} {ta tb tc : TE} {pos : Pos}
theorem binT (ha : PE X a ta) (hb : PE X b tb) {pins : List (Addr × Obj)} {s : Shared} {σ : St} {H : Hp} {R : V → V → Hp → Prop} (I : Inv X pins σ H s)
    (h : ta σ H fun x H1 => tb σ H1 fun y H2 => R x y H2) {Q : Value → Shared → Prop} {f : Value → Value → Sem Value}
    (hf : ∀ v u s2 x y H2, Inv X pins σ H2 s2 → RelV x v → RelV y u → R x y H2 → wpAny (model X.prog X.w) X.A (f v u) Q X.xe s2) :
    wpAny (model X.prog X.w) X.A (eval a X.env) (fun v s₁ => wpAny (model X.prog X.w) X.A (eval b X.env) (fun u s₂ => wpAny (model X.prog X.w) X.A (f v u) Q X.xe s₂) X.xe s₁) X.xe s := by
  refine thn (ha pins s σ H _ I h) fun v s1 ⟨x, H1, I1, r1, q1⟩ => ?_
  refine thn (hb pins s1 σ H1 _ I1 q1) fun u s2 ⟨y, H2, I2, r2, q2⟩ => ?_
  exact hf v u s2 x y H2 I2 r1 r2 q2
theorem pe_op {op : Operator} {r : R2} (ho : OpR X (binaryOp op) r) (ha : PE X a ta) (hb : PE X b tb) : PE X (.BinOp a op b pos) (tOp r ta tb) := by
  intro pins s σ H Q I h
  exact wpAny_BinOp (binT ha hb I h fun v u s2 x y H2 I2 rx ry q => ho pins s2 σ H2 x y v u Q I2 rx ry q)
theorem pe_un {op : UnaryOp} {r : V → Hp → VK → Prop} (ho : UnR X (unaryOp op) r) (ha : PE X a ta) : PE X (.UnaryOp op a pos) (tUn r ta) := by
  intro pins s σ H Q I h
  exact UnaryOp_ (thn (ha pins s σ H _ I h) fun v s1 ⟨x, H1, I1, r1, q1⟩ => ho pins s1 σ H1 x v Q I1 r1 q1)
theorem opI {f : Value → Value → Sem Value} {C : Int → Int → Prop} {g : Int → Int → Int}
    (rule : ∀ (i j : Int) (t u : Tok) (s : Shared) (Q : Value → Shared → Prop) (E : Value → Shared → Prop), C i j → Q (.int (g i j) s.toks) { s with toks := s.toks + 1 } → wpAny (model X.prog X.w) X.A (f (.int i t) (.int j u)) Q E s) :
    OpR X f (rI C fun i j => .int (g i j)) := by
  intro pins s σ H x y v u Q I rx ry h
  obtain ⟨i, j, rfl, rfl, hc, q⟩ := h
  obtain ⟨t, rfl⟩ := rx
  obtain ⟨t', rfl⟩ := ry
  exact rule i j t t' s _ _ hc ⟨.int (g i j), H, I.tok _, ⟨_, rfl⟩, q⟩
theorem opI0 {f : Value → Value → Sem Value} {g : Int → Int → Int}
    (rule : ∀ (i j : Int) (t u : Tok) (s : Shared) (Q : Value → Shared → Prop) (E : Value → Shared → Prop), Q (.int (g i j) s.toks) { s with toks := s.toks + 1 } → wpAny (model X.prog X.w) X.A (f (.int i t) (.int j u)) Q E s) :
    OpR X f (rI0 fun i j => .int (g i j)) := by
  intro pins s σ H x y v u Q I rx ry h
  obtain ⟨i, j, rfl, rfl, q⟩ := h
  obtain ⟨t, rfl⟩ := rx
  obtain ⟨t', rfl⟩ := ry
  exact rule i j t t' s _ _ ⟨.int (g i j), H, I.tok _, ⟨_, rfl⟩, q⟩
theorem opB0 {f : Value → Value → Sem Value} {g : Int → Int → Bool}
    (rule : ∀ (i j : Int) (t u : Tok) (s : Shared) (Q : Value → Shared → Prop) (E : Value → Shared → Prop), Q (.bool (g i j)) s → wpAny (model X.prog X.w) X.A (f (.int i t) (.int j u)) Q E s) :
    OpR X f (rI0 fun i j => .bl (g i j)) := by
  intro pins s σ H x y v u Q I rx ry h
  obtain ⟨i, j, rfl, rfl, q⟩ := h
  obtain ⟨t, rfl⟩ := rx
  obtain ⟨t', rfl⟩ := ry
  exact rule i j t t' s _ _ ⟨.bl (g i j), H, I, rfl, q⟩
def CDiv (i j : Int) : Prop := 0 < j ∧ j < 1073741824
def CPow (i j : Int) : Prop := 0 ≤ j ∧ j ≤ 1000000 ∧ i.natAbs < 2 ^ 64
def CMul (i j : Int) : Prop := (-(2 ^ 64) < i ∧ i < 2 ^ 64) ∨ (-(2 ^ 64) < j ∧ j < 2 ^ 64)
theorem CMul.ok {i j : Int} (h : CMul i j) : IntMulOk i j := by
  rcases h with ⟨h1, h2⟩ | ⟨h1, h2⟩
  · exact .of_left (intBits_le_64 h1 h2)
  · exact .of_right (intBits_le_64 h1 h2)
theorem op_add : OpR X (binaryOp .Add) (rI0 fun i j => .int (i + j)) := opI0 fun _ _ _ _ _ _ _ q => add_int q
theorem op_sub : OpR X (binaryOp .Sub) (rI0 fun i j => .int (i - j)) := opI0 fun _ _ _ _ _ _ _ q => sub_int q
theorem op_mul : OpR X (binaryOp .Mult) (rI CMul fun i j => .int (i * j)) := opI fun _ _ _ _ _ _ _ hc q => mul_int q hc.ok
theorem op_fdiv : OpR X (binaryOp .FloorDiv) (rI CDiv fun i j => .int (i / j)) := opI fun i j _ _ _ _ _ hc q => by
  have h1 : (0 : Int) < j := hc.1
  have h2 : j < 1073741824 := hc.2
  exact floordiv_int (by omega) (by rw [Int.fdiv_eq_ediv_of_nonneg i (by omega)]; exact q) (.inl (PyProof.noPylong_small (by omega)))
theorem op_mod : OpR X (binaryOp .Mod) (rI (fun _ j => 0 < j) fun i j => .int (i % j)) := opI fun i j _ _ _ _ _ hc q => by
  have h1 : (0 : Int) < j := hc
  exact mod_int' (by omega) (by rw [Int.fmod_eq_emod_of_nonneg i (by omega)]; exact q)
theorem op_pow : OpR X (binaryOp .Pow) (rI CPow fun i j => .int (i ^ j.toNat)) := opI fun _ _ _ _ _ _ _ hc q => pow_int_small hc.1 hc.2.1 hc.2.2 q
theorem unI {f : Value → Sem Value} {g : Int → Int}
    (rule : ∀ (i : Int) (t : Tok) (s : Shared) (Q : Value → Shared → Prop) (E : Value → Shared → Prop), Q (.int (g i) s.toks) { s with toks := s.toks + 1 } → wpAny (model X.prog X.w) X.A (f (.int i t)) Q E s) :
    UnR X f (rU fun i => .int (g i)) := by
  intro pins s σ H x v Q I rx h
  obtain ⟨i, rfl, q⟩ := h
  obtain ⟨t, rfl⟩ := rx
  exact rule i t s _ _ ⟨.int (g i), H, I.tok _, ⟨_, rfl⟩, q⟩
theorem un_neg : UnR X (unaryOp .USub) (rU fun i => .int (-i)) := unI fun _ _ _ _ _ q => neg_int q
end
def scal : V → V → Bool
  | .non, .non => true | .non, .int _ => true | .int _, .non => true | .non, .bl _ => true | .bl _, .non => true | .non, .str _ => true | .str _, .non => true
  | .int _, .int _ => true | .bl _, .bl _ => true | .str _, .str _ => true | .byt _, .byt _ => true
  | .int _, .str _ => true | .str _, .int _ => true | .bl _, .str _ => true | .str _, .bl _ => true
  | _, _ => false
def rEq : R2 := fun x y H Q => scal x y = true ∧ Q (.bl (decide (x = y))) H
def rNe : R2 := fun x y H Q => scal x y = true ∧ Q (.bl (!decide (x = y))) H
theorem dec_int {i j : Int} : decide (V.int i = V.int j) = (i == j) := by
  rw [Bool.eq_iff_iff]
  simp
theorem dec_bl {i j : Bool} : decide (V.bl i = V.bl j) = (i == j) := by
  rw [Bool.eq_iff_iff]
  simp
theorem dec_str {i j : Str} : decide (V.str i = V.str j) = (i == j) := by
  rw [Bool.eq_iff_iff]
  simp
theorem dec_byt {i j : Array UInt8} : decide (V.byt i = V.byt j) = (i.toList == j.toList) := by
  rw [Bool.eq_iff_iff]
  cases i
  cases j
  simp
section
variable {X : Cx} {a b c : Expr} {ta tb tc : TE} {pos : Pos}
theorem fin_bl {pins : List (Addr × Obj)} {σ : St} {H : Hp} {s : Shared} {Q : VK} {k k' : Bool} (I : Inv X pins σ H s) (q : Q (.bl k) H) (e : k = k') : EP X pins σ Q (.bool k') s := by
  subst e
  exact ⟨.bl k, H, I, rfl, q⟩
theorem op_eq : OpR X (compareOp .Eq) rEq := by
  intro pins s σ H x y v u Q I rx ry h
  obtain ⟨hs, q⟩ := h
  cases x with
  | non =>
    cases rx
    cases y with
    | non => cases ry; exact PySem.EqNone.eq_none_none (fin_bl I q (by simp))
    | bl j => cases ry; exact PySem.EqNone.eq_none_bool (fin_bl I q (by simp))
    | int j => obtain ⟨t', rfl⟩ := ry; exact PySem.EqNone.eq_none_int (fin_bl I q (by simp))
    | str j => obtain ⟨t', rfl⟩ := ry; exact PySem.EqNone.eq_none_str (fin_bl I q (by simp))
    | _ => exact absurd (show false = true from hs) Bool.false_ne_true
  | bl i =>
    cases rx
    cases y with
    | non => cases ry; exact PySem.EqNone.eq_bool_none (fin_bl I q (by simp))
    | bl j => cases ry; exact eq_bool (fin_bl I q dec_bl)
    | str j => obtain ⟨t', rfl⟩ := ry; exact PySem.EqMixed.eq_bool_str (fin_bl I q (by simp))
    | _ => exact absurd (show false = true from hs) Bool.false_ne_true
  | int i =>
    obtain ⟨t, rfl⟩ := rx
    cases y with
    | non => cases ry; exact PySem.EqNone.eq_int_none (fin_bl I q (by simp))
    | int j => obtain ⟨t', rfl⟩ := ry; exact eq_int (fin_bl I q dec_int)
    | str j => obtain ⟨t', rfl⟩ := ry; exact PySem.EqMixed.eq_int_str (fin_bl I q (by simp))
    | _ => exact absurd (show false = true from hs) Bool.false_ne_true
  | str i =>
    obtain ⟨t, rfl⟩ := rx
    cases y with
    | non => cases ry; exact PySem.EqNone.eq_str_none (fin_bl I q (by simp))
    | bl j => cases ry; exact PySem.EqMixed.eq_str_bool (fin_bl I q (by simp))
    | int j => obtain ⟨t', rfl⟩ := ry; exact PySem.EqMixed.eq_str_int (fin_bl I q (by simp))
    | str j => obtain ⟨t', rfl⟩ := ry; exact eq_str (fin_bl I q dec_str)
    | _ => exact absurd (show false = true from hs) Bool.false_ne_true
  | byt i =>
    obtain ⟨t, rfl⟩ := rx
    cases y with
    | byt j => obtain ⟨t', rfl⟩ := ry; exact PySem.W.eq_bytes (fin_bl I q dec_byt)
    | _ => exact absurd (show false = true from hs) Bool.false_ne_true
  | _ => cases y <;> exact absurd (show false = true from hs) Bool.false_ne_true
theorem op_ne : OpR X (compareOp .NotEq) rNe := by
  intro pins s σ H x y v u Q I rx ry h
  obtain ⟨hs, q⟩ := h
  cases x with
  | non =>
    cases rx
    cases y with
    | non => cases ry; exact PySem.EqNone.ne_none_none (fin_bl I q (by simp))
    | bl j => cases ry; exact PySem.EqNone.ne_none_bool (fin_bl I q (by simp))
    | int j => obtain ⟨t', rfl⟩ := ry; exact PySem.EqNone.ne_none_int (fin_bl I q (by simp))
    | str j => obtain ⟨t', rfl⟩ := ry; exact PySem.EqNone.ne_none_str (fin_bl I q (by simp))
    | _ => exact absurd (show false = true from hs) Bool.false_ne_true
  | bl i =>
    cases rx
    cases y with
    | non => cases ry; exact PySem.EqNone.ne_bool_none (fin_bl I q (by simp))
    | bl j => cases ry; exact ne_bool (fin_bl I q (congrArg not dec_bl))
    | str j => obtain ⟨t', rfl⟩ := ry; exact PySem.EqMixed.ne_bool_str (fin_bl I q (by simp))
    | _ => exact absurd (show false = true from hs) Bool.false_ne_true
  | int i =>
    obtain ⟨t, rfl⟩ := rx
    cases y with
    | non => cases ry; exact PySem.EqNone.ne_int_none (fin_bl I q (by simp))
    | int j => obtain ⟨t', rfl⟩ := ry; exact ne_int (fin_bl I q (congrArg not dec_int))
    | str j => obtain ⟨t', rfl⟩ := ry; exact PySem.EqMixed.ne_int_str (fin_bl I q (by simp))
    | _ => exact absurd (show false = true from hs) Bool.false_ne_true
  | str i =>
    obtain ⟨t, rfl⟩ := rx
    cases y with
    | non => cases ry; exact PySem.EqNone.ne_str_none (fin_bl I q (by simp))
    | bl j => cases ry; exact PySem.EqMixed.ne_str_bool (fin_bl I q (by simp))
    | int j => obtain ⟨t', rfl⟩ := ry; exact PySem.EqMixed.ne_str_int (fin_bl I q (by simp))
    | str j => obtain ⟨t', rfl⟩ := ry; exact ne_str (fin_bl I q (congrArg not dec_str))
    | _ => exact absurd (show false = true from hs) Bool.false_ne_true
  | byt i =>
    obtain ⟨t, rfl⟩ := rx
    cases y with
    | byt j => obtain ⟨t', rfl⟩ := ry; exact PySem.W.ne_bytes (fin_bl I q (congrArg not dec_byt))
    | _ => exact absurd (show false = true from hs) Bool.false_ne_true
  | _ => cases y <;> exact absurd (show false = true from hs) Bool.false_ne_true
theorem op_lt : OpR X (compareOp .Lt) (rI0 fun i j => .bl (decide (i < j))) := opB0 fun _ _ _ _ _ _ _ q => lt_int q
theorem op_le : OpR X (compareOp .LtE) (rI0 fun i j => .bl (decide (i ≤ j))) := opB0 fun _ _ _ _ _ _ _ q => le_int q
theorem op_gt : OpR X (compareOp .Gt) (rI0 fun i j => .bl (decide (j < i))) := opB0 fun _ _ _ _ _ _ _ q => gt_int q
theorem op_isN : OpR X (compareOp .Is) (fun x y H Q => y = .non ∧ Q (.bl (decide (x = .non))) H) := by
  intro pins s σ H x y v u Q I rx ry h
  obtain ⟨rfl, q⟩ := h
  cases ry
  refine is_none_gen (fin_bl I q ?_)
  cases x <;> first
    | (cases rx; rfl)
    | (obtain ⟨t, rfl⟩ := rx; rfl)
theorem nomark (b : Expr) {op : CmpOp} (h : op ≠ .In := by decide) (h2 : op ≠ .NotIn := by decide) : behindInMarks op b = false := by
  have e1 : (op == CmpOp.In) = false := by cases op <;> first | rfl | exact absurd rfl h
  have e2 : (op == CmpOp.NotIn) = false := by cases op <;> first | rfl | exact absurd rfl h2
  cases b <;> simp [behindInMarks, e1, e2]
theorem pe_cmpR {op : CmpOp} {r : R2} (ho : OpR X (compareOp op) r) (ha : PE X a ta) (hb : PE X b tb) (hm : behindInMarks op b = false) : PE X (.Compare a [op] [b] pos) (tOp r ta tb) := by
  intro pins s σ H Q I h
  exact wpAny_Compare1 (binT ha hb I h fun v u s2 x y H2 I2 rx ry q => ho pins s2 σ H2 x y v u Q I2 rx ry q) hm
def tTest (t : TE) : TT := fun σ H Q => t σ H fun x H' => ∃ k, x = .bl k ∧ Q k H'
theorem pt_cmpR {op : CmpOp} {r : R2} (ho : OpR X (compareOp op) r) (ha : PE X a ta) (hb : PE X b tb) (hm : behindInMarks op b = false) : PT X (.Compare a [op] [b] pos) (tTest (tOp r ta tb)) := by
  intro pins s σ H Q I h
  refine wpAny_isTrue_Compare1 (thn (ha pins s σ H _ I h) fun v s1 ⟨x, H1, I1, r1, q1⟩ => thn (hb pins s1 σ H1 _ I1 q1) fun u s2 ⟨y, H2, I2, r2, q2⟩ =>
    thn (ho pins s2 σ H2 x y v u _ I2 r1 r2 q2) fun c s3 ⟨z, H3, I3, r3, k, e, q3⟩ => ?_) hm
  subst e
  cases r3
  exact wpAny_truthy_bool ⟨H3, I3, q3⟩
def tChain (r r' : R2) (ta tb tc : TE) : TE := fun σ H Q => ta σ H fun x H1 => tb σ H1 fun y H2 => r x y H2 fun z H3 => ∃ k, z = .bl k ∧
  (if k = true then tc σ H3 fun w' H4 => r' y w' H4 Q else Q (.bl false) H3)
theorem pe_chain {op op' : CmpOp} {r r' : R2} (ho : OpR X (compareOp op) r) (ho' : OpR X (compareOp op') r') (ha : PE X a ta) (hb : PE X b tb) (hc : PE X c tc)
    (hm : lastMarks [op, op'] [b, c] = false := by with_unfolding_all rfl) : PE X (.Compare a [op, op'] [b, c] pos) (tChain r r' ta tb tc) := by
  intro pins s σ H Q I h
  refine Compare_chain (thn (ha pins s σ H _ I h) fun v s1 ⟨x, H1, I1, r1, q1⟩ => chain_link (thn (hb pins s1 σ H1 _ I1 q1) fun u s2 ⟨y, H2, I2, r2, q2⟩ =>
    thn (ho pins s2 σ H2 x y v u _ I2 r1 r2 q2) fun d s3 ⟨z, H3, I3, r3, k, e, q3⟩ => ?_)) hm
  subst e
  cases r3
  refine wpAny_truthy_bool ?_
  cases k with
  | false => exact ite_ff ⟨.bl false, H3, I3, rfl, q3⟩
  | true => exact ite_tt (chain_last (thn (hc pins s3 σ H3 _ I3 q3) fun w' s4 ⟨z', H4, I4, r4, q4⟩ => ho' pins s4 σ H4 y z' u w' Q I4 r2 r4 q4))
theorem line63 : (sizeLine : Nat) < 2 ^ 63 := by rw [sizeLine_eq]; decide
theorem vals1 {x : V} {us : List Value} (r : Vals [x] us) : ∃ u, us = [u] ∧ RelV x u := by
  cases r with
  | cons r1 r2 => cases r2; exact ⟨_, rfl, r1⟩
theorem vals2 {x y : V} {us : List Value} (r : Vals [x, y] us) : ∃ u w', us = [u, w'] ∧ RelV x u ∧ RelV y w' := by
  cases r with
  | cons r1 r2 =>
    cases r2 with
    | cons r3 r4 => cases r4; exact ⟨_, _, rfl, r1, r3⟩
theorem call_max2 (hc : X.calm = true) : CallR X (.builtin "max") (fun xs H Q => ∃ i j, xs = [.int i, .int j] ∧ Q (.int (if j > i then j else i)) H) := by
  intro pins s σ H xs us Q I r h
  obtain ⟨i, j, rfl, q⟩ := h
  obtain ⟨u, w', rfl, ⟨t, rfl⟩, ⟨t', rfl⟩⟩ := vals2 r
  refine max_two_ints (I.ok.hd hc) fun h' tk k => ⟨_, H, I.kept k, ?_, q⟩
  by_cases hj : j > i
  · rw [if_pos hj, if_pos hj]; exact ⟨_, rfl⟩
  · rw [if_neg hj, if_neg hj]; exact ⟨_, rfl⟩
theorem call_min2 (hc : X.calm = true) : CallR X (.builtin "min") (fun xs H Q => ∃ i j, xs = [.int i, .int j] ∧ Q (.int (if j < i then j else i)) H) := by
  intro pins s σ H xs us Q I r h
  obtain ⟨i, j, rfl, q⟩ := h
  obtain ⟨u, w', rfl, ⟨t, rfl⟩, ⟨t', rfl⟩⟩ := vals2 r
  refine min_two_ints (I.ok.hd hc) fun h' tk k => ⟨_, H, I.kept k, ?_, q⟩
  by_cases hj : j < i
  · rw [if_pos hj, if_pos hj]; exact ⟨_, rfl⟩
  · rw [if_neg hj, if_neg hj]; exact ⟨_, rfl⟩
end
end L2
namespace L2
open PySem PySem.Spec PyProof.Rows
structure ObjM (h : Heap) (x dx C : Addr) (mA : Str → Option Value) : Prop where
  obj : h.get? x = some (PySem.W.instObj C dx)
  ns : h.Ns1 dx mA
  ne : dx ≠ x
theorem lookIn_ns {h : Heap} {dx : Addr} {mA : Str → Option Value} (n : h.Ns1 dx mA) : ∃ od, h.get? dx = some od ∧ ∀ name, PySem.W.lookIn name od = some (mA name) := by
  obtain ⟨o, es, ep, ho, hd, hk, _, hm⟩ := n
  refine ⟨o, ho, fun name => ?_⟩
  have e := hm name
  unfold nsFind findBy at e
  rw [← Array.find?_toList] at e
  unfold PySem.W.lookIn
  rw [hd]
  dsimp only
  split
  · rename_i y q
    rw [q] at e
    exact congrArg some e
  · rename_i q
    rw [q] at e
    have a : es.toList.any (·.refKey) = false := by
      rw [List.any_eq_false]
      intro y hy
      obtain ⟨z, t, hkey⟩ := hk y (Array.mem_toList_iff.mp hy)
      simp [DictEntry.refKey, hkey]
    have a' : ¬ es.toList.any (·.refKey) = true := by rw [a]; exact Bool.false_ne_true
    rw [if_neg a']
    exact congrArg some e
theorem ObjM.look {h : Heap} {x dx C : Addr} {mA : Str → Option Value} (I : ObjM h x dx C mA) : ∃ od, PySem.W.InstAt h x (PySem.W.instObj C dx) C (some od) ∧ ∀ name, PySem.W.lookIn name od = some (mA name) :=
  let ⟨od, ho, hl⟩ := lookIn_ns I.ns
  ⟨od, ⟨I.obj, rfl, rfl, ho⟩, hl⟩
section
variable {prog : Program} {w : World} {A : Around} {E : Value → Shared → Prop} {s : Shared} {K : PySem.W.Frag} {x dx C f : Addr} {mA : Str → Option Value} {name : Str} {v : Value}
theorem get_map {expr : Bool} {Q : Value → Shared → Prop} (X : K.In s.heap) (I : ObjM s.heap x dx C mA) (hg : PySem.W.plainGet K C name = true) (hh : PySem.W.hasDictIn K C = true)
    (ha : PySem.W.findIn K (.ref C) name = some none) (hv : mA name = some v) (hv' : PySem.W.handedIn v = true) (h : Q v { s with toks := s.toks + 1 }) :
    wpAny (model prog w) A (getAttr (.ref x) name expr) Q E s := by
  obtain ⟨od, J, hl⟩ := I.look
  exact PySem.W.get_value X J (PySem.W.plainGet_of hg).1 (PySem.W.findObj_own hh ha rfl (by rw [hl, hv])) hv' h
theorem get_meth {pl : Sem Bool} {Q : Value × List Value → Shared → Prop} (X : K.In s.heap) (I : ObjM s.heap x dx C mA) (hg : PySem.W.plainGet K C name = true)
    (hf : PySem.W.findIn K (.ref C) name = some (some (.ref f))) (ht : PySem.W.isFn K (.ref f) = true) (hv : mA name = none) (h : Q (.ref f, [.ref x]) s) :
    wpAny (model prog w) A (getMethod (.ref x) name pl) Q E s := by
  obtain ⟨od, J, hl⟩ := I.look
  exact PySem.W.method_fn X J (PySem.W.plainGet_of hg).1 (PySem.W.plainGet_of hg).2 hf (beq_iff_eq.mp ht) (by show (PySem.W.lookIn name od).map (·.isSome) = some false; rw [hl, hv]; rfl) h
theorem set_map {ns : List Str} {Q : Unit → Shared → Prop} (X : K.In s.heap) (I : ObjM s.heap x dx C mA)
    (hs : PySem.W.findIn K (.ref C) "__setattr__" = some (some (.builtin "object.__setattr__"))) (hp : PySem.W.plainOver K C = true) (ht : PySem.W.takerIn K C name = some none) (hh : PySem.W.hasDictIn K C = true)
    (hw : PySem.Within mA ns) (hsz : ns.length ≤ sizeLine)
    (h : ∀ h', ObjM h' x dx C (fun y => if y = name then some v else mA y) → Heap.SameBut dx s.heap h' → Q () { s with heap := h', toks := s.toks + 2 }) :
    wpAny (model prog w) A (setAttr (.ref x) name v) Q E s := by
  obtain ⟨od, J, hl⟩ := I.look
  refine PySem.W.set_plain X J hs (PySem.W.osa_open (s := { s with toks := s.toks + 1 }) (r := none) X J hp ht fun b => ?_)
  obtain ⟨cd, hc, hd'⟩ := PySem.W.any_some hh
  have hx : s.heap.get? x = some ⟨.ref C, some dx, .plain, #[]⟩ := I.obj
  refine wpAny_bind (wpAny_pure (wpAny_bind (wpAny_bind (wpAny_loadPart hx (wpAny_bind (PySem.W.Looks.here (s := { s with toks := s.toks + 1 }) (PySem.W.looks_clsIn X hc) ?_))))))
  rw [hd']
  refine wpAny_pure (a := some dx) (wpAny_bind (wpAny_pure (wpAny_bind ?_)))
  refine wpAny_nsSet1 (s := { s with toks := s.toks + 1 }) I.ns fun h' hn2 hs2 => ?_
  obtain ⟨oD, esD, epD, hoD, hdD, hcD⟩ := hn2.count (PySem.Within.cons name v hw)
  refine wpAny_bind (wpAny_lookBehind hoD (by rw [hdD]; exact pastItsLine_dict (Nat.le_trans hcD (by rw [List.length_cons]; omega))) ?_)
  exact wpAny_pure (h _ ⟨(hs2.2 _ (Ne.symm I.ne)).trans I.obj, hn2, I.ne⟩ hs2)
theorem make_map {R : Result → Shared → Prop} {vs : List Value} {kw : List (Str × Value)} (X : K.In s.heap) (hm : PySem.W.makesIn K C = true)
    (hi : PySem.W.findIn K (.ref C) "__init__" = some (some (.ref f))) (hf : PySem.W.typeIn K (.ref f) = some (.type "function"))
    (h : codeAny (model prog w) (A.under (.builtin "type.__call__" ⟨.ref C :: vs, kw⟩)) (.call (.ref f) ⟨.ref (s.heap.objs.size + 1) :: vs, kw⟩) (PySem.W.InitBack (s.heap.objs.size + 1) R)
      { s with heap := (s.heap.push PySem.W.emptyDict).push (PySem.W.instObj C s.heap.objs.size) }) :
    codeAny (model prog w) A (.call (.ref C) ⟨vs, kw⟩) R s := by
  obtain ⟨hh, g, d, t, os⟩ := s
  exact PySem.W.make_core (PySem.W.makes_of X hm) (PySem.W.looks_findIn X hi) (fun self => PySem.W.bind_fn X self hf) (.inl rfl) h
end
def putF (f : Str) (v : V) : List (Str × V) → List (Str × V)
  | [] => [(f, v)]
  | (g, x) :: r => if g = f then (g, v) :: r else (g, x) :: putF f v r
theorem lookup_putF (f g : Str) (v : V) : ∀ fs : List (Str × V), (putF f v fs).lookup g = if g = f then some v else fs.lookup g
  | [] => by
    show List.lookup g [(f, v)] = _
    by_cases h : g = f
    · have hb : (g == f) = true := beq_iff_eq.mpr h
      simp only [List.lookup, hb, if_pos h]
    · have hb : (g == f) = false := beq_eq_false_iff_ne.mpr h
      simp only [List.lookup, hb, if_neg h]
  | (k, x) :: r => by
    have ih := lookup_putF f g v r
    rw [show putF f v ((k, x) :: r) = (if k = f then (k, v) :: r else (k, x) :: putF f v r) from rfl]
    by_cases hk : k = f
    · rw [if_pos hk]
      by_cases h : g = k
      · have hb : (g == k) = true := beq_iff_eq.mpr h
        simp only [List.lookup, hb, if_pos (h.trans hk)]
      · have hb : (g == k) = false := beq_eq_false_iff_ne.mpr h
        simp only [List.lookup, hb, if_neg (fun e : g = f => h (e.trans hk.symm))]
    · rw [if_neg hk]
      by_cases h : g = k
      · have hb : (g == k) = true := beq_iff_eq.mpr h
        simp only [List.lookup, hb, if_neg (fun e : g = f => hk (h.symm.trans e))]
      · have hb : (g == k) = false := beq_eq_false_iff_ne.mpr h
        simp only [List.lookup, hb]
        exact ih
theorem keys_putF (f : Str) (v : V) : ∀ fs : List (Str × V), f ∈ (putF f v fs).map (·.1) ∧ ∀ g, g ∈ fs.map (·.1) → g ∈ (putF f v fs).map (·.1)
  | [] => ⟨by simp [putF], fun g h => by simp at h⟩
  | (k, x) :: r => by
    obtain ⟨i1, i2⟩ := keys_putF f v r
    rw [show putF f v ((k, x) :: r) = (if k = f then (k, v) :: r else (k, x) :: putF f v r) from rfl]
    by_cases hk : k = f
    · rw [if_pos hk]
      subst hk
      exact ⟨by simp, fun g h => by simpa using h⟩
    · rw [if_neg hk]
      refine ⟨?_, fun g h => ?_⟩
      · rw [List.map_cons]
        exact List.mem_cons_of_mem _ i1
      · rw [List.map_cons] at h ⊢
        rcases List.mem_cons.mp h with e | e
        · exact List.mem_cons.mpr (.inl e)
        · exact List.mem_cons_of_mem _ (i2 g e)
theorem length_putF (f : Str) (v : V) : ∀ fs : List (Str × V), (putF f v fs).length ≤ fs.length + 1
  | [] => by simp [putF]
  | (k, x) :: r => by
    have ih := length_putF f v r
    rw [show putF f v ((k, x) :: r) = (if k = f then (k, v) :: r else (k, x) :: putF f v r) from rfl]
    by_cases hk : k = f
    · rw [if_pos hk, List.length_cons, List.length_cons]; omega
    · rw [if_neg hk, List.length_cons, List.length_cons]; omega
theorem RelO.some_of {v : V} {o : Option Value} (r : RelO (some v) o) : ∃ u, o = some u ∧ RelV v u := by
  cases o with
  | none => exact (show False from r).elim
  | some u => exact ⟨u, rfl, r⟩
theorem RelO.none_of {o : Option Value} (r : RelO none o) : o = none := by
  cases o with
  | none => rfl
  | some u => exact (show False from r).elim
theorem handed_of {v : V} {u : Value} (r : RelV v u) : PySem.W.handedIn u = true := by
  cases v with
  | non => cases (show u = Value.none from r); rfl
  | bl b => cases (show u = Value.bool b from r); rfl
  | int i => obtain ⟨t, e⟩ := (show ∃ t, u = Value.int i t from r); cases e; rfl
  | str x => obtain ⟨t, e⟩ := (show ∃ t, u = Value.str x t from r); cases e; rfl
  | byt b => obtain ⟨t, e⟩ := (show ∃ t, u = Value.bytes b t from r); cases e; rfl
  | flt b => obtain ⟨t, e⟩ := (show ∃ t, u = Value.float b t from r); cases e; rfl
  | ref a => cases (show u = Value.ref a from r); rfl
  | ty n => cases (show u = Value.type n from r); rfl
section
variable {P : Program} {w : World} {H H' : Hp} {h h' : Heap} {a C dx : Addr} {fs fs' : List (Str × V)}
theorem ins_get (hok : HOk P w H h) (e : H a = some (.ins C dx fs)) : ∃ mA, ObjM h a dx C mA ∧ (∀ f, RelO (fs.lookup f) (mA f)) ∧ PySem.Within mA (fs.map (·.1)) ∧ fs.length ≤ 1000 ∧ H dx = some (.own a) := by
  obtain ⟨d, z, ne, ob, mA, n, r, q⟩ := (show ObjOk P w H h a (.ins C dx fs) from hok a _ e)
  exact ⟨mA, ⟨ob, n, ne⟩, r, q, z, d⟩
end
structure Cls (K : PySem.W.Frag) (C : Addr) : Prop where
  pg : PySem.W.plainGet K C Str.empty = true
  hd : PySem.W.hasDictIn K C = true
  po : PySem.W.plainOver K C = true
  sa : PySem.W.findIn K (.ref C) "__setattr__" = some (some (.builtin "object.__setattr__"))
theorem Cls.get {K : PySem.W.Frag} {C : Addr} (c : Cls K C) (f : Str) : PySem.W.plainGet K C f = true := c.pg
def NoAttr (K : PySem.W.Frag) (C : Addr) (f : Str) : Prop := PySem.W.findIn K (.ref C) f = some none
theorem NoAttr.taker {K : PySem.W.Frag} {C : Addr} {f : Str} (n : NoAttr K C f) : PySem.W.takerIn K C f = some none := by
  unfold PySem.W.takerIn
  rw [show PySem.W.findIn K (.ref C) f = some none from n]
  rfl
structure Meth (K : PySem.W.Frag) (C : Addr) (m : Str) (f : Addr) : Prop where
  at_ : PySem.W.findIn K (.ref C) m = some (some (.ref f))
  fn : PySem.W.isFn K (.ref f) = true
  kp : PySem.W.keepIn K (.ref f) = true
section
variable {X : Cx} {pins : List (Addr × Obj)} {σ : St} {H : Hp} {s : Shared} {a C dx : Addr} {fs : List (Str × V)} {f : Str} {v : V} {A : Around} {E : Value → Shared → Prop}
theorem getattr_ok {b : Bool} {Q : Value → Shared → Prop} (I : Inv X pins σ H s) (e : H a = some (.ins C dx fs)) (c : Cls X.K C) (n : NoAttr X.K C f) (l : fs.lookup f = some v)
    (h : ∀ u s', Inv X pins σ H s' → RelV v u → Q u s') : wpAny (model X.prog X.w) A (getAttr (.ref a) f b) Q E s := by
  obtain ⟨mA, O, r, _, _, _⟩ := ins_get I.hok e
  obtain ⟨u, hu, ru⟩ := RelO.some_of (v := v) (o := mA f) (by rw [← l]; exact r f)
  exact get_map I.kIn O (c.get f) c.hd n hu (handed_of ru) (h u _ (I.tok _) ru)
theorem getmeth_ok {m : Str} {g : Addr} {pl : Sem Bool} {Q : Value × List Value → Shared → Prop} (I : Inv X pins σ H s) (e : H a = some (.ins C dx fs)) (c : Cls X.K C) (k : Meth X.K C m g) (l : fs.lookup m = none)
    (h : Q (.ref g, [.ref a]) s) : wpAny (model X.prog X.w) A (getMethod (.ref a) m pl) Q E s := by
  obtain ⟨mA, O, r, _, _, _⟩ := ins_get I.hok e
  have hn : mA m = none := RelO.none_of (by rw [← l]; exact r m)
  exact get_meth I.kIn O (c.get m) k.at_ k.fn hn h
theorem setattr_ok {y : V} {u : Value} {Q : Unit → Shared → Prop} (I : Inv X pins σ H s) (e : H a = some (.ins C dx fs)) (c : Cls X.K C) (n : NoAttr X.K C f) (hl : fs.length < 1000) (ry : RelV y u)
    (h : ∀ s', Inv X pins σ (upd H a (.ins C dx (putF f y fs))) s' → Q () s') : wpAny (model X.prog X.w) A (setAttr (.ref a) f u) Q E s := by
  obtain ⟨mA, O, r, wi, _, ho⟩ := ins_get I.hok e
  have hz : (fs.map (·.1)).length ≤ sizeLine := by rw [List.length_map, sizeLine_eq]; omega
  refine set_map I.kIn O c.sa c.po n.taker c.hd wi hz fun h' O' sb => h _ ?_
  have hd : ∃ o, h'.get? dx = some o := let ⟨o, _, _, e', _⟩ := O'.ns; ⟨o, e'⟩
  refine I.write (x := a) (e := dx) (by rw [e]; exact True.intro) (.inr ho) (fun b q hb z => (sb.2 b hb).trans z) hd ?_
  refine ⟨by rw [upd_ne O.ne]; exact ho, ?_, O.ne, O'.obj, _, O'.ns, fun g => ?_, fun g hg => ?_⟩
  · have := length_putF f y fs; omega
  · show RelO ((putF f y fs).lookup g) (if g = f then some u else mA g)
    rw [lookup_putF]
    by_cases q : g = f
    · rw [if_pos q, if_pos q]; exact ry
    · rw [if_neg q, if_neg q]; exact r g
  · by_cases q : g = f
    · rw [q]; exact (keys_putF f y fs).1
    · refine (keys_putF f y fs).2 g (wi g fun z => hg ?_)
      show (if g = f then some u else mA g) = none
      rw [if_neg q]; exact z
theorem Inv.made (I : Inv X pins σ H s) : Inv X pins σ (upd (upd H s.heap.objs.size (.own (s.heap.objs.size + 1))) (s.heap.objs.size + 1) (.ins C s.heap.objs.size []))
    { s with heap := (s.heap.push PySem.W.emptyDict).push (PySem.W.instObj C s.heap.objs.size) } := by
  have e1 : (s.heap.push PySem.W.emptyDict).get? s.heap.objs.size = some PySem.W.emptyDict := Heap.get?_push_size s.heap rfl
  have e2 : ((s.heap.push PySem.W.emptyDict).push (PySem.W.instObj C s.heap.objs.size)).get? (s.heap.objs.size + 1) = some (PySem.W.instObj C s.heap.objs.size) := by
    have := Heap.get?_push_size (s.heap.push PySem.W.emptyDict) (o := PySem.W.instObj C s.heap.objs.size) rfl
    rwa [Heap.size_push] at this
  have e3 : (s.heap.push PySem.W.emptyDict).Ns s.heap.objs.size (fun _ => none) := ⟨PySem.W.emptyDict, #[], _, e1, rfl, (fun e he => absurd he (by simp)), fun _ => rfl⟩
  have I1 := I.laid (a := s.heap.objs.size) (o := .own (s.heap.objs.size + 1)) (h' := s.heap.push PySem.W.emptyDict) (t' := s.toks) (fun b u q => Heap.get?_push_of_some _ q) (Nat.le_refl _) ⟨_, e1⟩
  refine I1.laid (a := s.heap.objs.size + 1) (o := .ins C s.heap.objs.size []) (t' := s.toks) (fun b u q => Heap.get?_push_of_some _ q) (Nat.le_of_eq (Heap.size_push _ _)) ?_
  have ne : s.heap.objs.size ≠ s.heap.objs.size + 1 := Nat.ne_of_lt (Nat.lt_succ_self _)
  refine ⟨by rw [upd_ne ne, upd_same], Nat.zero_le _, ne, e2, fun _ => none, (Heap.Ns1.of_empty e3).at fun o q => Heap.get?_push_of_some _ q, fun _ => True.intro, fun y hy => absurd rfl hy⟩
theorem attr_of {prog : Program} {w : World} {env : Env} {e : Expr} {f : Str} {pos : Pos} {s : Shared} {Q : Value → Shared → Prop} (hb : attributeBase e f env (eval e env) = eval e env)
    (h : wpAny (model prog w) A (eval e env) (fun o s₁ => wpAny (model prog w) A (getAttr o f true) Q E s₁) E s) : wpAny (model prog w) A (eval (.Attribute e f pos) env) Q E s :=
  Attribute_any_ h (by rw [arm_eval_Attribute, hb])
end
def tFld (K : PySem.W.Frag) (ta : TE) (f : Str) : TE := fun σ H Q => ta σ H fun x H1 => ∃ a C dx fs v, x = .ref a ∧ H1 a = some (.ins C dx fs) ∧ Cls K C ∧ NoAttr K C f ∧ fs.lookup f = some v ∧ Q v H1
def sFld (K : PySem.W.Frag) (ta tv : TE) (f : Str) : TS := fun D σ H => tv σ H fun y H1 => ta σ H1 fun x H2 => ∃ a C dx fs, x = .ref a ∧ H2 a = some (.ins C dx fs) ∧ Cls K C ∧ NoAttr K C f ∧ fs.length < 1000 ∧
  D.nx σ (upd H2 a (.ins C dx (putF f y fs)))
section
variable {X : Cx} {o e value : Expr} {f : Str} {pos pos' tpos : Pos} {ta tv : TE}
theorem pe_fld (he : PE X e ta) (hb : attributeBase e f X.env (eval e X.env) = eval e X.env) : PE X (.Attribute e f pos) (tFld X.K ta f) := by
  intro pins s σ H Q I h
  refine attr_of hb (thn (he pins s σ H _ I h) fun u s1 ⟨x, H1, I1, rx, a, C, dx, fs, v, ex, ea, c, n, l, q⟩ => ?_)
  subst ex
  obtain rfl : u = Value.ref a := rx
  exact getattr_ok I1 ea c n l fun u' s2 I2 ru => ⟨v, H1, I2, ru, q⟩
theorem ps_fld (ha : PE X o ta) (hv : PE X value tv) (hs : swapsWith value (some (.Attribute o f pos')) pos.line X.env = pure false) : PS X (.Assign [.Attribute o f pos'] value pos) (sFld X.K ta tv f) := by
  intro pins s σ H D I h
  refine plainObj_wpAny_Assign_Attribute (thn (hv pins s σ H _ I h) fun u s1 ⟨y, H1, I1, ry, q⟩ => thn (ha pins s1 σ H1 _ I1 q) fun ov s2 ⟨x, H2, I2, rx, a, C, dx, fs, ex, ea, c, n, l, q2⟩ => ?_) hs
  subst ex
  obtain rfl : ov = Value.ref a := rx
  exact setattr_ok I2 ea c n l ry fun s3 I3 => ⟨σ, _, I3, q2⟩
end
section
variable {X : Cx} {pins : List (Addr × Obj)} {σ : St} {H : Hp} {s : Shared} {A : Around} {E : Value → Shared → Prop} {Q : Value → Shared → Prop} {c : Value} {b : Bool}
inductive TyOf (K : PySem.W.Frag) (H : Hp) : V → Value → Prop where
  | non : TyOf K H .non (.type "NoneType")
  | bl (x : Bool) : TyOf K H (.bl x) (.type "bool")
  | int (i : Int) : TyOf K H (.int i) (.type "int")
  | str (x : Str) : TyOf K H (.str x) (.type "str")
  | flt (x : UInt64) : TyOf K H (.flt x) (.type "float")
  | lst {a : Addr} {xs : List V} (e : H a = some (.lst xs)) : TyOf K H (.ref a) (.type "list")
  | frz {a : Addr} {o : Obj} {xs : List V} (e : H a = some (.frz o (.lst xs))) : TyOf K H (.ref a) (.type "list")
  | tup {a : Addr} {xs : List V} (e : H a = some (.tup xs)) : TyOf K H (.ref a) (.type "tuple")
  | dK {a : Addr} {kvs : List (Key × V)} (e : H a = some (.dK kvs)) : TyOf K H (.ref a) (.type "dict")
  | dT {a : Addr} {kvs : List (List Key × V)} (e : H a = some (.dT kvs)) : TyOf K H (.ref a) (.type "dict")
  | ins {a C dx : Addr} {fs : List (Str × V)} (e : H a = some (.ins C dx fs)) (cl : Cls K C) (ha : PySem.W.findIn K (.ref C) "__class__" = some (some (.builtin "object.__class__")))
      (hn : PySem.W.specialIn K (.builtin "object.__class__") "__get__" = some (some (.builtin "getset_descriptor.__get__"))) (htk : PySem.W.takesIn K (.builtin "object.__class__") = some true)
      (hm : PySem.W.mroIn K C (.type "object") = some true) : TyOf K H (.ref a) (.ref C)
theorem isinst_ok {x : V} {u t : Value} (I : Inv X pins σ H s) (rx : RelV x u) (ty : TyOf X.K H x t) (e : PySem.W.kitOne X.K t c = some b) (h : ∀ tk, Q (.bool b) { s with toks := tk }) :
    wpAny (model X.prog X.w) A (call (.builtin "isinstance") [u, c]) Q E s := by
  cases ty with
  | non => cases (show u = Value.none from rx); exact PySem.W.kia_one PySem.W.kitx_none I.kIn True.intro e (fun z => nomatch z) h
  | bl y => cases (show u = Value.bool y from rx); exact PySem.W.kia_one PySem.W.kitx_bool I.kIn True.intro e (fun z => nomatch z) h
  | int i => obtain ⟨t, q⟩ := (show ∃ t, u = Value.int i t from rx); cases q; exact PySem.W.kia_one PySem.W.kitx_int I.kIn True.intro e (fun z => nomatch z) h
  | str y => obtain ⟨t, q⟩ := (show ∃ t, u = Value.str y t from rx); cases q; exact PySem.W.kia_one PySem.W.kitx_str I.kIn True.intro e (fun z => nomatch z) h
  | flt y => obtain ⟨t, q⟩ := (show ∃ t, u = Value.float y t from rx); cases q; exact PySem.W.kia_one PySem.W.kitx_float I.kIn True.intro e (fun z => nomatch z) h
  | @lst a xs ea =>
    cases (show u = Value.ref a from rx)
    obtain ⟨_, _, n, _, h1⟩ := (show ObjOk X.prog X.w H s.heap a (.lst xs) from I.hok a _ ea)
    exact PySem.W.kia_one PySem.W.kitx_list I.kIn ⟨_, h1, rfl⟩ e (fun z => nomatch z) h
  | @frz a ob xs ea =>
    cases (show u = Value.ref a from rx)
    obtain ⟨_, _, _, n, _, h1⟩ := (show ObjOk X.prog X.w H s.heap a (.frz ob (.lst xs)) from I.hok a _ ea)
    exact PySem.W.kia_one PySem.W.kitx_list I.kIn ⟨_, h1, rfl⟩ e (fun z => nomatch z) h
  | @tup a xs ea =>
    cases (show u = Value.ref a from rx)
    obtain ⟨_, _, _, p⟩ := (show ObjOk X.prog X.w H s.heap a (.tup xs) from I.hok a _ ea)
    obtain ⟨o, h1, h2, _⟩ := p
    exact PySem.W.kia_one PySem.W.kitx_tuple I.kIn ⟨o, h1, h2⟩ e (fun z => nomatch z) h
  | @dK a kvs ea =>
    cases (show u = Value.ref a from rx)
    obtain ⟨_, _, vs, _, p⟩ := (show ObjOk X.prog X.w H s.heap a (.dK kvs) from I.hok a _ ea)
    obtain ⟨o, es, ep, h1, h2, _⟩ := p
    exact PySem.W.kia_one PySem.W.kitx_dict I.kIn ⟨o, h1, h2.1⟩ e (fun z => nomatch z) h
  | @dT a kvs ea =>
    cases (show u = Value.ref a from rx)
    obtain ⟨_, _, xs, _, o, es, ep, h1, h2, _⟩ := (show ObjOk X.prog X.w H s.heap a (.dT kvs) from I.hok a _ ea)
    exact PySem.W.kia_one PySem.W.kitx_dict I.kIn ⟨o, h1, h2.1⟩ e (fun z => nomatch z) h
  | @ins a C dx fs ea cl ha hn htk hm =>
    cases (show u = Value.ref a from rx)
    obtain ⟨mA, O, _⟩ := ins_get I.hok ea
    obtain ⟨od, J, _⟩ := O.look
    exact PySem.W.kia_one (PySem.W.kitx_own (cl.get _) cl.hd ha hn htk hm) I.kIn J e (fun z => nomatch z) h
end
end L2
namespace L2
open PySem PySem.Spec PyProof.Rows
structure Room (k : Nat) (A : Around) : Prop where
  hd : A.handled = none
  dp : A.depth + 3 * k + 5 < recursionLimit
  un : A.units + 16 * k + 200 < cLine
theorem Room.mono {j k : Nat} {A : Around} (r : Room k A) (h : j ≤ k) : Room j A := ⟨r.hd, by have := r.dp; omega, by have := r.un; omega⟩
theorem Room.deeper {k : Nat} {A : Around} (r : Room (k + 1) A) (env : Env) : Room k (A.deeper env) :=
  ⟨r.hd, by have := r.dp; show A.depth + 1 + 3 * k + 5 < _; omega, by have := r.un; show A.units + 3 + 16 * k + 200 < _; omega⟩
theorem make_depth {A : Around} {C : Addr} {us : List Value} {kw : List (Str × Value)} : (A.under (.builtin "type.__call__" ⟨.ref C :: us, kw⟩)).depth = A.depth + 1 := by
  first | rfl | simp [Around.under, Code.weight, Code.isCreation, Code.isGuard, Code.isCaller, Code.frames, Code.isFrame, guardIds]
theorem make_units {A : Around} {C : Addr} {us : List Value} {kw : List (Str × Value)} : (A.under (.builtin "type.__call__" ⟨.ref C :: us, kw⟩)).units = A.units + 1 := by
  first | rfl | simp [Around.under, Code.cUnits, Code.frames, Code.isFrame]
theorem Room.make {k : Nat} {A : Around} (r : Room (k + 1) A) (C : Addr) (us : List Value) (kw : List (Str × Value)) : Room k (A.under (.builtin "type.__call__" ⟨.ref C :: us, kw⟩)) :=
  ⟨r.hd, by have := r.dp; rw [make_depth]; omega, by have := r.un; rw [make_units]; omega⟩
theorem Room.depth {k : Nat} {A : Around} (r : Room k A) : A.depth < recursionLimit := by have := r.dp; omega
def tNil : TA := fun _ H Q => Q [] H
def tCons (ta : TE) (tr : TA) : TA := fun σ H Q => ta σ H fun x H1 => tr σ H1 fun xs H2 => Q (x :: xs) H2
section
variable {X : Cx} {e : Expr} {es : List Expr} {te : TE} {t : TA} {pos : Pos}
theorem pa_nil : PA X [] tNil := fun _ _ _ _ H Q I h => Calls.spliced_nil ⟨[], H, I, .nil, h⟩
theorem pa_cons (ha : PE X e te) (hr : PA X es t) (hs : starEach (e :: es) X.env = (false, eval e X.env) :: starEach es X.env := by rfl) : PA X (e :: es) (tCons te t) := by
  intro pos pins s σ H Q I h
  rw [hs]
  show wpAny _ _ (spliced ((false, eval e X.env) :: backTo pos (starEach es X.env))) _ _ s
  refine Calls.spliced_cons (thn (ha pins s σ H _ I h) fun u s1 ⟨x, H1, I1, r1, q1⟩ => ?_)
  exact thn (hr pos pins s1 σ H1 _ I1 q1) fun us s2 ⟨xs, H2, I2, r2, q2⟩ => ⟨x :: xs, H2, I2, .cons r1 r2, q2⟩
def tTup (t : TA) : TE := fun σ H Q => t σ H fun xs H1 => xs.length ≤ sizeLine ∧ ∀ p, H1 p = none → Q (.ref p) (upd H1 p (.tup xs))
def tLst (t : TA) : TE := fun σ H Q => t σ H fun xs H1 => xs.length ≤ sizeLine ∧ ∀ p, H1 p = none → Q (.ref p) (upd H1 p (.lst xs))
theorem pe_tup {x1} (h : PA X es t) : PE X (.Tuple es x1 pos) (tTup t) := by
  intro pins s σ H Q I hq
  refine wpAny_Tuple_spliced (thn (h pos pins s σ H _ I hq) fun us s1 ⟨xs, H1, I1, r, z, q⟩ => ⟨by rw [← r.length]; exact z, ?_⟩)
  have hf : H1 s1.heap.objs.size = none := I1.hok.fresh (Nat.le_refl _)
  refine ⟨.ref s1.heap.objs.size, upd H1 s1.heap.objs.size (.tup xs), I1.laid (t' := s1.toks) (fun b u e => Heap.get?_push_of_some _ e) (Nat.le_refl _) ?_, rfl, q _ hf⟩
  exact ⟨z, us, r, ⟨_, Heap.get?_push_size _ rfl, rfl, _, rfl⟩⟩
theorem pe_lst (h : PA X es t) : PE X (.List es pos) (tLst t) := by
  intro pins s σ H Q I hq
  refine wpAny_List_spliced (thn (h pos pins s σ H _ I hq) fun us s1 ⟨xs, H1, I1, r, z, q⟩ => ⟨by rw [← r.length]; exact z, ?_⟩)
  have hf : H1 s1.heap.objs.size = none := I1.hok.fresh (Nat.le_refl _)
  refine ⟨.ref s1.heap.objs.size, upd H1 s1.heap.objs.size (.lst xs), I1.laid (t' := s1.toks) (fun b u e => Heap.get?_push_of_some _ e) (Nat.le_refl _) ?_, rfl, q _ hf⟩
  exact ⟨z, us, 0, r, Heap.get?_push_size _ rfl⟩
end
abbrev Sp := List V → Hp → VK → XK → Prop
abbrev CXT := List Env → Hp → Shared → XK → Value → Shared → Prop
structure Env0 (P : Program) (w : World) (K : PySem.W.Frag) (mg : Str → Option Value) (base : Heap) (A : Around) (outer : List Env) (s : Shared) (H : Hp) : Prop where
  frames : A.frames = some outer
  mod : Mod K mg base
  bs : ∀ b o, base.get? b = some o → s.heap.get? b = some o ∧ H b = none
  bsz : base.objs.size ≤ s.heap.objs.size
  funs : s.heap.FunFrames base outer
  frf : ∀ b ∈ frs outer, H b = none
  hok : HOk P w H s.heap
  bare : AllBare s.gens
def CE (outer : List Env) (P : Program) (w : World) (H : Hp) (s : Shared) (Q : VK) (u : Value) (s' : Shared) : Prop :=
  ∃ v H', s'.os = s.os ∧ AllBare s'.gens ∧ Un (frs outer) [] H H' s.heap s'.heap ∧ HOk P w H' s'.heap ∧ RelV v u ∧ Q v H'
def CR (CX : CXT) (outer : List Env) (P : Program) (w : World) (H : Hp) (s : Shared) (Q : VK) (E : XK) (r : Result) (s' : Shared) : Prop :=
  match r with
  | .ok (.ret u) => CE outer P w H s Q u s'
  | .ok _ => False
  | .error e => CX outer H s E e s'
structure FnOk (P : Program) (w : World) (K : PySem.W.Frag) (mg : Str → Option Value) (base : Heap) (CX : CXT) (k : Nat) (f : Addr) (fd : FuncData) (ps : List Str) (sp : Sp) : Prop where
  len : ∀ vs H Q E, sp vs H Q E → vs.length = ps.length
  run : ∀ (A : Around) (outer : List Env) (s : Shared) (H : Hp) (args : Args) (us : List Value) (vs : List V) (Q : VK) (E : XK), Room k A → Env0 P w K mg base A outer s H → BindsTo s fd args (ps.zip us) → Vals vs us → sp vs H Q E →
    codeAny (model P w) A (.call (.ref f) args) (CR CX outer P w H s Q E) s
theorem Env0.make {P : Program} {w : World} {K : PySem.W.Frag} {mg : Str → Option Value} {base : Heap} {A : Around} {outer : List Env} {s : Shared} {H : Hp} (e : Env0 P w K mg base A outer s H) (C : Addr) (us : List Value) (kw : List (Str × Value)) :
    Env0 P w K mg base (A.under (.builtin "type.__call__" ⟨.ref C :: us, kw⟩)) outer s H := ⟨by first | exact e.frames | (simpa [Around.under, Code.envs, Code.isFrame, pushEnvs] using e.frames), e.mod, e.bs, e.bsz, e.funs, e.frf, e.hok, e.bare⟩
section
variable {X : Cx} {pins : List (Addr × Obj)} {σ : St} {H : Hp} {s s' : Shared}
theorem Inv.env0 (I : Inv X pins σ H s) : Env0 X.prog X.w X.K X.mg X.base X.A X.stack s H :=
  ⟨I.ok.frames, I.ok.mod, I.bs, Nat.le_trans I.ok.bsz I.sz, I.stack, I.stkFree, I.hok, I.bare⟩
theorem Inv.after {Q : VK} {u : Value} (I : Inv X pins σ H s) (h : CE X.stack X.prog X.w H s Q u s') : EP X pins σ Q u s' := by
  obtain ⟨v, H', os, bare, un, hok, r, q⟩ := h
  obtain ⟨hh, g, d, t, os'⟩ := s'
  obtain rfl : os' = s.os := os
  exact ⟨v, H', I.call (h' := hh) (g' := g) (d' := d) (t' := t) (ch := []) un hok bare (fun b z => absurd z (by simp)), r, q⟩
end
def tCall (sp : Sp) (dvs : List V) (E : XK) (t : TA) : TE := fun σ H Q => t σ H fun vs H1 => sp (vs ++ dvs) H1 Q E
def tMeth (C : Addr) (m : Str) (sp : Sp) (dvs : List V) (E : XK) (ta : TE) (t : TA) : TE := fun σ H Q => ta σ H fun x H1 => ∃ a dx fs, x = .ref a ∧ H1 a = some (.ins C dx fs) ∧ fs.lookup m = none ∧
  t σ H1 fun vs H2 => sp (x :: (vs ++ dvs)) H2 Q E
def tMake (C : Addr) (sp : Sp) (dvs : List V) (E : XK) (t : TA) : TE := fun σ H Q => t σ H fun vs H1 => ∀ x dx, H1 x = none → H1 dx = none → dx ≠ x →
  sp (.ref x :: (vs ++ dvs)) (upd (upd H1 dx (.own x)) x (.ins C dx [])) (fun v H2 => v = .non ∧ Q (.ref x) H2) E
def Binds (K : PySem.W.Frag) (fd : FuncData) (ps : List Str) (ds : List Value) : Prop :=
  ∀ (s : Shared) (us : List Value), K.In s.heap → (us ++ ds).length = ps.length → BindsTo s fd ⟨us, []⟩ (ps.zip (us ++ ds))
theorem Binds.all {K : PySem.W.Frag} {fd : FuncData} {ps : List Str} (h : ∀ us : List Value, us.length = ps.length → bindArgs fd ⟨us, []⟩ = pure (ps.zip us)) : Binds K fd ps [] := fun s us _ hl => by
  rw [List.append_nil] at hl ⊢
  exact .of_eq (h us hl)
def Passes (CX : CXT) (X : Cx) (E : XK) : Prop := ∀ (pins : List (Addr × Obj)) (σ : St) (H : Hp) (s : Shared) (e : Value) (s' : Shared), Inv X pins σ H s → CX X.stack H s E e s' → X.xe e s'
section
variable {X : Cx} {CX : CXT} {k : Nat} {f C : Addr} {fd : FuncData} {ps : List Str} {sp : Sp} {dvs : List V} {ds : List Value} {E : XK} {x m : Str} {p pos apos : Pos} {e o : Expr} {es : List Expr} {ta : TE} {t : TA}
theorem run_fn {pins : List (Addr × Obj)} {σ : St} {H : Hp} {s : Shared} {Q : VK} {us : List Value} {vs : List V} (F : FnOk X.prog X.w X.K X.mg X.base CX k f fd ps sp) (hr : Room k X.A) (hb : Binds X.K fd ps ds) (hd : Vals dvs ds) (hx : Passes CX X E)
    (I : Inv X pins σ H s) (r : Vals vs us) (h : sp (vs ++ dvs) H Q E) : wpAny (model X.prog X.w) X.A (call (.ref f) us) (EP X pins σ Q) X.xe s := by
  have r2 : Vals (vs ++ dvs) (us ++ ds) := r.append hd
  have hl : (us ++ ds).length = ps.length := by rw [← r2.length]; exact F.len _ _ _ _ h
  refine wpAny_call (codeAny_mono (F.run X.A X.stack s H ⟨us, []⟩ (us ++ ds) (vs ++ dvs) Q E hr I.env0 (hb s us I.kIn hl) r2 h) fun r s' hq => ?_)
  cases r with
  | error e => exact hx pins σ H s e s' I hq
  | ok fl =>
    cases fl with
    | ret u => exact I.after hq
    | next => exact False.elim hq
    | brk => exact False.elim hq
    | cont => exact False.elim hq
theorem pe_call (F : FnOk X.prog X.w X.K X.mg X.base CX k f fd ps sp) (hr : Room k X.A) (hg : Gl X x) (hm : X.mg x = some (.ref f)) (hk : PySem.W.keepIn X.K (.ref f) = true) (hb : Binds X.K fd ps ds) (hd : Vals dvs ds) (hx : Passes CX X E)
    (ha : PA X (e :: es) t) (hdb : (x == ("__debug__" : Str)) = false := by decide) (he : starEach (e :: es) X.env = (false, eval e X.env) :: starEach es X.env := by rfl) (hpl : (backTo pos (starEach es X.env)).any (·.1) = false := by rfl) :
    PE X (.Call (.Name x p) (e :: es) [] pos) (tCall sp dvs E t) := by
  intro pins s σ H Q I h
  refine wpAny_Call_Name_kw (ld_glob I hg hm ?_ hdb)
  refine PySem.W.callWith_K (h₀ := X.base) I.ok.mod.kin hk (thn (ha pos pins s σ H _ I h) fun us s1 ⟨vs, H1, I1, r, q⟩ => ⟨I1.kIn, ?_⟩) he hpl
  exact run_fn F hr hb hd hx I1 r q
theorem pe_meth {pl : Sem Bool} (he : PE X o ta) (c : Cls X.K C) (hm : Meth X.K C m f) (F : FnOk X.prog X.w X.K X.mg X.base CX k f fd ps sp) (hr : Room k X.A) (hb : Binds X.K fd ps ds) (hd : Vals dvs ds) (hx : Passes CX X E) (ha : PA X (e :: es) t)
    (hst : starEach (e :: es) X.env = (false, eval e X.env) :: starEach es X.env := by rfl) (hpl : (backTo pos (starEach es X.env)).any (·.1) = false := by rfl)
    (ht : eval (.Call (.Attribute o m apos) (e :: es) [] pos) X.env = (do
      let ov ← eval o X.env
      standAt apos.atName
      let (f, first) ← holding [ov] (getMethod ov m pl)
      callWith pos f first (backTo pos (starEach (e :: es) X.env)) (backToKw pos (keywordEach [] X.env))) := by rfl) :
    PE X (.Call (.Attribute o m apos) (e :: es) [] pos) (tMeth C m sp dvs E ta t) := by
  intro pins s σ H Q I h
  refine PySem.W.methodCall_KW (pl := pl) (thn (he pins s σ H _ I h) fun u s1 ⟨x, H1, I1, rx, a, dx, fs, ex, ea, l, q⟩ => ?_) ht
  subst ex
  obtain rfl : u = Value.ref a := rx
  refine getmeth_ok I1 ea c hm l ?_
  refine PySem.W.callWith_K (first := [.ref a]) (h₀ := X.base) I.ok.mod.kin hm.kp (thn (ha pos pins s1 σ H1 _ I1 q) fun us s2 ⟨vs, H2, I2, r, q2⟩ => ⟨I2.kIn, ?_⟩) hst hpl
  exact run_fn (us := .ref a :: us) (vs := .ref a :: vs) F hr hb hd hx I2 (.cons rfl r) q2
theorem pe_meth0 {pl : Sem Bool} (he : PE X o ta) (c : Cls X.K C) (hm : Meth X.K C m f) (F : FnOk X.prog X.w X.K X.mg X.base CX k f fd ps sp) (hr : Room k X.A) (hb : Binds X.K fd ps ds) (hd : Vals dvs ds) (hx : Passes CX X E)
    (ht : eval (.Call (.Attribute o m apos) [] [] pos) X.env = (do
      let ov ← eval o X.env
      standAt apos.atName
      let (f, first) ← holding [ov] (getMethod ov m pl)
      callWith pos f first (backTo pos (starEach [] X.env)) (backToKw pos (keywordEach [] X.env))) := by rfl) :
    PE X (.Call (.Attribute o m apos) [] [] pos) (tMeth C m sp dvs E ta tNil) := by
  intro pins s σ H Q I h
  refine PySem.W.methodCall_KW (pl := pl) (thn (he pins s σ H _ I h) fun u s1 ⟨x, H1, I1, rx, a, dx, fs, ex, ea, l, q⟩ => ?_) ht
  subst ex
  obtain rfl : u = Value.ref a := rx
  refine getmeth_ok I1 ea c hm l ?_
  exact PySem.W.callWith_K0 (first := [.ref a]) I1.kIn hm.kp (run_fn (us := [.ref a]) (vs := [.ref a]) F hr hb hd hx I1 (.cons rfl .nil) q)
structure Mk (K : PySem.W.Frag) (C f : Addr) : Prop where
  makes : PySem.W.makesIn K C = true
  init : PySem.W.findIn K (.ref C) "__init__" = some (some (.ref f))
  fn : PySem.W.isFn K (.ref f) = true
  kp : PySem.W.keepIn K (.ref C) = true
theorem run_make {pins : List (Addr × Obj)} {σ : St} {H : Hp} {s : Shared} {Q : VK} {us : List Value} {vs : List V} (M : Mk X.K C f) (F : FnOk X.prog X.w X.K X.mg X.base CX k f fd ps sp) (hr : Room (k + 1) X.A) (hb : Binds X.K fd ps ds) (hd : Vals dvs ds)
    (hx : Passes CX X E) (I : Inv X pins σ H s) (r : Vals vs us)
    (h : ∀ x dx, H x = none → H dx = none → dx ≠ x → sp (.ref x :: (vs ++ dvs)) (upd (upd H dx (.own x)) x (.ins C dx [])) (fun v H2 => v = .non ∧ Q (.ref x) H2) E) :
    wpAny (model X.prog X.w) X.A (call (.ref C) us) (EP X pins σ Q) X.xe s := by
  have hq := h (s.heap.objs.size + 1) s.heap.objs.size (I.hok.fresh (Nat.le_succ _)) (I.hok.fresh (Nat.le_refl _)) (Nat.ne_of_lt (Nat.lt_succ_self _))
  have I2 := Inv.made (C := C) I
  have r2 : Vals (V.ref (s.heap.objs.size + 1) :: (vs ++ dvs)) (Value.ref (s.heap.objs.size + 1) :: (us ++ ds)) := .cons rfl (r.append hd)
  have hl : (Value.ref (s.heap.objs.size + 1) :: us ++ ds).length = ps.length := by
    have e := r2.length
    rw [F.len _ _ _ _ hq] at e
    exact e.symm
  refine wpAny_call (make_map (f := f) I.kIn M.makes M.init (beq_iff_eq.mp M.fn) (codeAny_mono (F.run _ X.stack _ _ ⟨Value.ref (s.heap.objs.size + 1) :: us, []⟩ (Value.ref (s.heap.objs.size + 1) :: (us ++ ds)) _ _ E (hr.make C us [])
    (I2.env0.make C us []) (hb _ (Value.ref (s.heap.objs.size + 1) :: us) I2.kIn hl) r2 hq) fun r s' hq' => ?_))
  cases r with
  | error e => exact hx pins σ _ _ e s' I2 hq'
  | ok fl =>
    cases fl with
    | ret u =>
      obtain ⟨v, H', I3, rv, ev, q3⟩ := I2.after hq'
      subst ev
      exact ⟨rv, ⟨V.ref (s.heap.objs.size + 1), H', I3, rfl, q3⟩⟩
    | next => exact False.elim hq'
    | brk => exact False.elim hq'
    | cont => exact False.elim hq'
theorem pe_make (M : Mk X.K C f) (F : FnOk X.prog X.w X.K X.mg X.base CX k f fd ps sp) (hr : Room (k + 1) X.A) (hg : Gl X x) (hm : X.mg x = some (.ref C)) (hb : Binds X.K fd ps ds) (hd : Vals dvs ds) (hx : Passes CX X E)
    (ha : PA X (e :: es) t) (hdb : (x == ("__debug__" : Str)) = false := by decide) (he : starEach (e :: es) X.env = (false, eval e X.env) :: starEach es X.env := by rfl) (hpl : (backTo pos (starEach es X.env)).any (·.1) = false := by rfl) :
    PE X (.Call (.Name x p) (e :: es) [] pos) (tMake C sp dvs E t) := by
  intro pins s σ H Q I h
  refine wpAny_Call_Name_kw (ld_glob I hg hm ?_ hdb)
  refine PySem.W.callWith_K (h₀ := X.base) I.ok.mod.kin M.kp (thn (ha pos pins s σ H _ I h) fun us s1 ⟨vs, H1, I1, r, q⟩ => ⟨I1.kIn, ?_⟩) he hpl
  exact run_make M F hr hb hd hx I1 r q
end
def PK (X : Cx) (kws : List Keyword) (t : TA) : Prop :=
  ∀ (pos : Pos) (pins : List (Addr × Obj)) (s : Shared) (σ : St) (H : Hp) (Q : List V → Hp → Prop), Inv X pins σ H s → t σ H Q → wpAny (model X.prog X.w) X.A (evalAll ((backToKw pos (keywordEach kws X.env)).map (·.2))) (AP X pins σ Q) X.xe s
section
variable {X : Cx} {CX : CXT} {k : Nat} {f C : Addr} {fd : FuncData} {ps ks : List Str} {sp : Sp} {E : XK} {x m : Str} {p pos apos kpos : Pos} {e o : Expr} {es : List Expr} {kws : List Keyword} {te ta : TE} {t tk : TA} {nm : Option Str}
theorem pk_nil : PK X [] tNil := fun _ _ _ _ H Q I h => wpAny_evalAll_nil ⟨[], H, I, .nil, h⟩
theorem pk_cons (ha : PE X e te) (hr : PK X kws t) : PK X (⟨nm, e, kpos⟩ :: kws) (tCons te t) := by
  intro pos pins s σ H Q I h
  show wpAny _ _ (evalAll ((do let v ← eval e X.env; standAt pos; pure v) :: (backToKw pos (keywordEach kws X.env)).map (·.2))) _ _ s
  refine wpAny_evalAll_cons (wpAny_bind (thn (ha pins s σ H _ I h) fun u s1 ⟨x, H1, I1, r1, q1⟩ => wpAny_bind (wpAny_standAt (wpAny_pure ?_))))
  exact thn (hr pos pins s1 σ H1 _ I1 q1) fun us s2 ⟨xs, H2, I2, r2, q2⟩ => ⟨x :: xs, H2, I2, .cons r1 r2, q2⟩
variable {g : List Value → List Value → List Value} {gV : List V → List V → List V}
end
structure FnScope (N P : List Str) (sc : Scope) : Prop where
  kind : sc.kind = .function
  co : sc.isCoroutine = false
  gen : sc.isGenerator = false
  nd : N.Nodup
  pre : N.take P.length = P
  par : ∀ x ∈ P, sc.names.lookup x = some .local ∨ sc.names.lookup x = some .cell
  nofree : ∀ y ∈ sc.names, y.2 ≠ .free
theorem bindL_out {kindOf : Str → Option NameKind} {x : Str} : ∀ {binds : List (Str × Value)} {m : Str → Option Value}, (∀ v, (x, v) ∉ binds) → bindL kindOf binds m x = m x
  | [], _, _ => rfl
  | (n, v) :: r, m, h => by
    unfold bindL
    rw [bindL_out fun w hw => h w (List.mem_cons_of_mem _ hw)]
    split
    · have : x ≠ n := by rintro rfl; exact h v List.mem_cons_self
      simp [this]
    · rfl
theorem bindC_out {kindOf : Str → Option NameKind} {x : Str} : ∀ {binds : List (Str × Value)} {m : Str → Option Value}, (∀ v, (x, v) ∉ binds) → bindC kindOf binds m x = m x
  | [], _, _ => rfl
  | (n, v) :: r, m, h => by
    unfold bindC
    rw [bindC_out fun w hw => h w (List.mem_cons_of_mem _ hw)]
    split
    · rfl
    · have : x ≠ n := by rintro rfl; exact h v List.mem_cons_self
      simp [this]
theorem bindL_get {kindOf : Str → Option NameKind} {x : Str} {v : Value} : ∀ {P : List Str} {vs : List Value} {i : Nat} {m : Str → Option Value}, P.Nodup → P[i]? = some x → vs[i]? = some v → kindOf x = some .local →
    bindL kindOf (P.zip vs) m x = some v
  | [], _, _, _, _, h, _, _ => by simp at h
  | _ :: _, [], _, _, _, _, h, _ => by simp at h
  | p :: P, w :: vs, 0, m, nd, h1, h2, hk => by
    simp at h1 h2; subst h1; subst h2
    show bindL kindOf ((p, w) :: P.zip vs) m p = _
    unfold bindL
    rw [bindL_out fun v hv => (List.nodup_cons.mp nd).1 (List.of_mem_zip hv).1, if_pos hk]
    simp
  | p :: P, w :: vs, i + 1, m, nd, h1, h2, hk => by
    show bindL kindOf ((p, w) :: P.zip vs) m x = _
    unfold bindL
    exact bindL_get (i := i) (List.nodup_cons.mp nd).2 (by simpa using h1) (by simpa using h2) hk
theorem bindC_get {kindOf : Str → Option NameKind} {x : Str} {v : Value} : ∀ {P : List Str} {vs : List Value} {i : Nat} {m : Str → Option Value}, P.Nodup → P[i]? = some x → vs[i]? = some v → kindOf x ≠ some .local →
    bindC kindOf (P.zip vs) m x = some v
  | [], _, _, _, _, h, _, _ => by simp at h
  | _ :: _, [], _, _, _, _, h, _ => by simp at h
  | p :: P, w :: vs, 0, m, nd, h1, h2, hk => by
    simp at h1 h2; subst h1; subst h2
    show bindC kindOf ((p, w) :: P.zip vs) m p = _
    unfold bindC
    rw [bindC_out fun v hv => (List.nodup_cons.mp nd).1 (List.of_mem_zip hv).1, if_neg hk]
    simp
  | p :: P, w :: vs, i + 1, m, nd, h1, h2, hk => by
    show bindC kindOf ((p, w) :: P.zip vs) m x = _
    unfold bindC
    exact bindC_get (i := i) (List.nodup_cons.mp nd).2 (by simpa using h1) (by simpa using h2) hk
def start (N : List Str) (vs : List V) : St := vs.map some ++ List.replicate (N.length - vs.length) none
def cxOf (CX : CXT) (P : Program) (w : World) (K : PySem.W.Frag) (mg : Str → Option Value) (base : Heap) (N : List Str) (qual : Str) (scope : Scope) (f : Addr) (cd : Value) (A : Around) (outer : List Env) (s : Shared) (H : Hp) (E : XK) : Cx where
  prog := P
  w := w
  K := K
  mg := mg
  base := base
  A := A.deeper (envOfC qual scope s.heap.objs.size f cd)
  N := N
  s₀ := s
  H₀ := H
  env := envOfC qual scope s.heap.objs.size f cd
  outer := outer
  stack := envOfC qual scope s.heap.objs.size f cd :: outer
  ex := []
  calm := true
  fn := fun _ => true
  pn := []
  xe := fun e s' => wpAny (model P w) (A.deeper (envOfC qual scope s.heap.objs.size f cd)) (leaving (envOfC qual scope s.heap.objs.size f cd) e) (fun _ s'' => CX outer H s E e s'') (fun e' s'' => CX outer H s E e' s'') s'
theorem cell_has {sc : Scope} {n : Nat} {x : Str} (h : sc.names.lookup x = some .cell) : ∃ c, (cellsFrom n sc.names []).lookup x = some c := by
  have q := PySem.W.cellsFrom_some sc.names n [] (.inl h)
  exact Option.isSome_iff_exists.mp q
theorem inv_start {CX : CXT} {P : Program} {w : World} {K : PySem.W.Frag} {mg : Str → Option Value} {base : Heap} {N ps : List Str} {qual : Str} {scope : Scope} {f : Addr} {cd : Value} {A : Around} {outer : List Env} {s s1 : Shared} {H : Hp} {E : XK} {us : List Value} {vs : List V}
    (S : FnScope N ps scope) (hd : A.handled = none) (e0 : Env0 P w K mg base A outer s H) (hl : vs.length = ps.length) (r : Vals vs us)
    (x : InCallC s s.heap.objs.size (bindL (envOfC qual scope s.heap.objs.size f cd).kindOf (ps.zip us) fun _ => none) (cellsFrom (s.heap.objs.size + 1) scope.names []) (bindC (envOfC qual scope s.heap.objs.size f cd).kindOf (ps.zip us) fun _ => none) s1) :
    Inv (cxOf CX P w K mg base N qual scope f cd A outer s H E) [] (start N vs) H s1 := by
  have hpl : ps.length ≤ N.length := by have := congrArg List.length S.pre; rw [List.length_take] at this; omega
  obtain ⟨h1, tk, rfl, hk⟩ := x.done
  have noA : ∀ b : Addr, b ∉ (cxOf CX P w K mg base N qual scope f cd A outer s H E).ex := fun b z => absurd (show b ∈ ([] : List Addr) from z) (by simp)
  refine ⟨⟨e0.mod, S.kind, rfl, rfl, Nat.le_refl _, fun y z c h1 h2 => ?_, fun y hy => ?_, fun y c _ h => ?_, fun _ => hd, Around.frames_deeper e0.frames, .inr ⟨rfl, rfl⟩, fun b z => absurd z (noA b), e0.bs, e0.bsz, fun b _ _ => noA b, fun b z => absurd z (noA b), e0.funs, e0.frf⟩,
    rfl, e0.bare, Un.kept hk, ⟨_, x.toInCall.ns, fun i y v h1 h2 h3 => ?_⟩, fun y c h => ⟨_, x.cell y c h⟩, e0.hok.fresh (Nat.le_refl _), fun y c h => ?_, fun p hp => absurd (show p ∈ ([] : List (Addr × Obj)) from hp) (by simp), e0.hok.kept hk, ?_⟩
  · exact name_of_addr x.apart (PySem.mem_of_lookup h1) (PySem.mem_of_lookup h2)
  · have hy : scope.names.lookup y = some .cell ∨ scope.names.lookup y = some .free := hy
    rcases hy with hy | hy
    · exact cell_has hy
    · exact absurd rfl (S.nofree _ (PySem.mem_of_lookup hy))
  · exact Nat.le_of_lt (x.above y c (PySem.mem_of_lookup h))
  · have hi : i < vs.length := by
      unfold start at h2
      by_cases hi : i < vs.length
      · exact hi
      · rw [List.getElem?_append_right (by simpa using hi)] at h2
        rw [List.getElem?_replicate] at h2
        split at h2 <;> cases h2
    have ha : vs[i]? = some v := by
      unfold start at h2
      rw [List.getElem?_append_left (by simpa using hi), List.getElem?_map] at h2
      cases e : vs[i]? with
      | none => rw [e] at h2; cases h2
      | some a => rw [e] at h2; cases h2; rfl
    obtain ⟨u, hu, rv⟩ := r.get ha
    have hp : ps[i]? = some y := by
      rw [← S.pre, List.getElem?_take_of_lt (by omega)]; exact h1
    have ndP : ps.Nodup := by rw [← S.pre]; exact S.nd.sublist (List.take_sublist _ _)
    refine ⟨u, rv, ?_⟩
    rcases S.par y (List.mem_of_getElem? hp) with k | k
    · exact .inl ⟨k, bindL_get ndP hp hu k⟩
    · obtain ⟨c, e⟩ := cell_has (n := s.heap.objs.size + 1) k
      refine .inr ⟨.inl k, c, e, ?_⟩
      have q := x.cell y c e
      rw [bindC_get ndP hp hu (by show scope.names.lookup y ≠ _; rw [k]; decide)] at q
      exact q
  · exact e0.hok.fresh (Nat.le_of_lt (x.above y c (PySem.mem_of_lookup h)))
  · unfold start
    show _ = N.length
    rw [List.length_append, List.length_map, List.length_replicate]
    omega
theorem fn_of {CX : CXT} {P : Program} {w : World} {K : PySem.W.Frag} {mg : Str → Option Value} {base : Heap} {k : Nat} {f : Addr} {name qual : Str} {params : Arguments} {body : List Stmt} {scope : Scope} {dV kV doc pm cdv ct oc : Value} {an od : Option Addr}
    {osl : Array (Option Value)} {N ps : List Str} {sp : Sp} (lk : K.lookup f = some ⟨oc, od, .func (PySem.W.fnOf name qual params body scope dV kV doc pm an cdv ct), osl⟩) (hcd : PySem.W.codeIn K cdv qual = true) (S : FnScope N ps scope)
    (len : ∀ vs H Q E, sp vs H Q E → vs.length = ps.length)
    (hbody : ∀ (A : Around) (outer : List Env) (s : Shared) (H : Hp) (vs : List V) (Q : VK) (E : XK), Room k (A.deeper (envOfC qual scope s.heap.objs.size f cdv)) → sp vs H Q E →
      ∃ t, PSs (cxOf CX P w K mg base N qual scope f cdv A outer s H E) body t ∧ t { nx := fun _ H' => Q .non H', rt := Q } (start N vs) H) :
    FnOk P w K mg base CX (k + 1) f (PySem.W.fnOf name qual params body scope dV kV doc pm an cdv ct) ps sp := by
  refine ⟨len, fun A outer s H args us vs Q E hr e0 hb r hsp => ?_⟩
  have hl := len _ _ _ _ hsp
  have KX : K.In s.heap := e0.mod.kin.keeps fun b o e => (e0.bs b o e).1
  have lim : s.heap.NoLimit := e0.mod.nolimit.keeps fun b o e => (e0.bs b o e).1
  have hkind : ∀ y ∈ ps.zip us, scope.names.lookup y.1 = some .local ∨ (scope.names.lookup y.1 = some .cell ∧ ((cellsFrom (s.heap.objs.size + 1) scope.names []).lookup y.1).isSome = true) := fun ⟨n, v⟩ hy => by
    rcases S.par n (List.of_mem_zip hy).1 with q | q
    · exact .inl q
    · exact .inr ⟨q, PySem.W.cellsFrom_some _ _ _ (.inl q)⟩
  refine codeAny_call_function hr.depth (KX _ _ lk) rfl S.co S.gen rfl (PySem.W.codeRec_of KX hcd) (hb _ _ _ _ ?_)
  refine wpAny_newFunctionEnv_cells S.kind hkind fun env he s1 x => ?_
  subst he
  refine ⟨lim.keeps x.toInCall.keep, codeAny_func ?_⟩
  obtain ⟨t, ht, hq⟩ := hbody A outer s H vs Q E (hr.deeper _) hsp
  have I : Inv (cxOf CX P w K mg base N qual scope f cdv A outer s H E) [] (start N vs) H s1 := inv_start S hr.hd e0 hl r x
  refine wpAny_mono (ht [] s1 (start N vs) H _ I hq) (fun fl s' hs => ?_) fun e s' hs => hs
  have fin : ∀ {σ' : St} {H' : Hp} {v : V} {u : Value}, Inv (cxOf CX P w K mg base N qual scope f cdv A outer s H E) [] σ' H' s' → RelV v u → Q v H' → CE outer P w H s Q u s' :=
    fun {σ' H' v u} J rv q => ⟨v, H', J.os, J.bare, J.base, J.hok, rv, q⟩
  cases fl with
  | ret u =>
    obtain ⟨v, σ', H', J, rv, q⟩ := hs
    exact fin J rv q
  | next =>
    obtain ⟨σ', H', J, q⟩ := hs
    exact fin (v := V.non) (u := Value.none) J rfl q
  | brk =>
    obtain ⟨_, _, _, q⟩ := hs
    exact False.elim q
  | cont =>
    obtain ⟨_, _, _, q⟩ := hs
    exact False.elim q
end L2
namespace L2
open PySem PySem.Spec PyProof.Rows
section
variable {X : Cx} {x : Str} {p pos : Pos} {e : Expr} {es : List Expr} {t : TA} {id T : String} {r : List V → Hp → VK → Prop}
def tCB (r : List V → Hp → VK → Prop) (t : TA) : TE := fun σ H Q => t σ H fun vs H1 => r vs H1 Q
theorem pe_callB (hc : CallR X (.builtin id) r) (hg : Gl X x) (hm : X.mg x = none) (hv : bootBuiltins x = some (.builtin id)) (ha : PA X (e :: es) t) (hn : x ≠ "__name__" := by decide) (hdb : (x == ("__debug__" : Str)) = false := by decide)
    (he : starEach (e :: es) X.env = (false, eval e X.env) :: starEach es X.env := by rfl) (hpl : (backTo pos (starEach es X.env)).any (·.1) = false := by rfl) : PE X (.Call (.Name x p) (e :: es) [] pos) (tCB r t) := by
  intro pins s σ H Q I h
  refine wpAny_Call_Name_kw (ld_blt I hg hm hv ?_ hn hdb)
  exact PyProof.Rows.callWith_builtin1 (thn (ha pos pins s σ H _ I h) fun us s1 ⟨vs, H1, I1, r1, q1⟩ => hc pins s1 σ H1 vs us Q I1 r1 q1) he hpl
theorem pe_callTy (hc : CallR X (.type T) r) (hg : Gl X x) (hm : X.mg x = none) (hv : bootBuiltins x = some (.type T)) (ha : PA X (e :: es) t) (hn : x ≠ "__name__" := by decide) (hdb : (x == ("__debug__" : Str)) = false := by decide)
    (he : starEach (e :: es) X.env = (false, eval e X.env) :: starEach es X.env := by rfl) (hpl : (backTo pos (starEach es X.env)).any (·.1) = false := by rfl) : PE X (.Call (.Name x p) (e :: es) [] pos) (tCB r t) := by
  intro pins s σ H Q I h
  refine wpAny_Call_Name_kw (ld_blt I hg hm hv ?_ hn hdb)
  exact PyProof.Rows.callWith_type1 (thn (ha pos pins s σ H _ I h) fun us s1 ⟨vs, H1, I1, r1, q1⟩ => hc pins s1 σ H1 vs us Q I1 r1 q1) he hpl
end
end L2
namespace HT
open PySem PyProof.Rows
section
open PySem.SeqAt
open PySem.AutoSeq1 (wpAny_loadPart')
open PySem.MeetsSeq PySem.MeetsSeq2 PySem.MeetsSeq3
end
section
variable {prog : Program} {w : World} {A : Around} {E : Value → Shared → Prop} {s : Shared}
def sIx (n d : Nat) : Option Int → Nat
  | none => d
  | some v => if v < 0 then (v + (n : Int)).toNat else min v.toNat n
end
end HT
namespace L2
open PySem PySem.Spec PyProof.Rows
abbrev TO := St → Hp → (Option Int → Hp → Prop) → Prop
def PO (X : Cx) (e : Option Expr) (t : TO) : Prop :=
  ∀ (pins : List (Addr × Obj)) (s : Shared) (σ : St) (H : Hp) (Q : Option Int → Hp → Prop), Inv X pins σ H s → t σ H Q →
    wpAny (model X.prog X.w) X.A (evalPart e X.env) (fun u s' => ∃ o H', Inv X pins σ H' s' ∧ IsPart u o ∧ Q o H') X.xe s
def tNoPart : TO := fun _ H Q => Q none H
def tPart (t : TE) : TO := fun σ H Q => t σ H fun x H1 => ∃ i, x = .int i ∧ Q (some i) H1
section
variable {X : Cx} {e : Expr} {te : TE} {lo hi : Option Expr} {tl th : TO} {pos p2 : Pos}
theorem po_none : PO X none tNoPart := by
  intro pins s σ H Q I h
  rw [evalPart_none]
  exact wpAny_pure ⟨none, H, I, .none, h⟩
theorem po_some (h : PE X e te) : PO X (some e) (tPart te) := by
  intro pins s σ H Q I hw
  rw [evalPart_some]
  refine thn (h pins s σ H _ I hw) fun u s1 ⟨x, H1, I1, r1, q1⟩ => ?_
  obtain ⟨i, rfl, q⟩ := q1
  obtain ⟨t, rfl⟩ := r1
  exact ⟨some i, H1, I1, .int i t, q⟩
def SlR (X : Cx) (r : V → Option Int → Option Int → Hp → VK → Prop) : Prop :=
  ∀ (pins : List (Addr × Obj)) (s : Shared) (σ : St) (H : Hp) (x : V) (v vl vu : Value) (lo hi : Option Int) (sl : Addr) (Q : VK), Inv X pins σ H s → RelV x v → s.heap.IsSliceOf sl vl vu .none → IsPart vl lo → IsPart vu hi → r x lo hi H Q →
    ∃ T id, typeLookup (.type T) "__getitem__" = pure (some (.builtin id)) ∧ s.TypeIs v T ∧ wpAny (model X.prog X.w) X.A (getItem v (.ref sl)) (EP X pins σ Q) X.xe s
def tSl (r : V → Option Int → Option Int → Hp → VK → Prop) (te : TE) (tl th : TO) : TE := fun σ H Q => te σ H fun x H1 => tl σ H1 fun l H2 => th σ H2 fun u H3 => r x l u H3 Q
theorem pe_slice {r : V → Option Int → Option Int → Hp → VK → Prop} (hr : SlR X r) (he : PE X e te) (hl : PO X lo tl) (hu : PO X hi th) : PE X (.Subscript e (.Slice lo hi none p2) pos) (tSl r te tl th) := by
  intro pins s σ H Q I h
  refine Subscript_ (thn (he pins s σ H _ I h) fun v s1 ⟨x, H1, I1, r1, q1⟩ => ?_)
  refine wpAny_Slice (thn (hl pins s1 σ H1 _ I1 q1) fun vl s2 ⟨l, H2, I2, pl, q2⟩ => thn (hu pins s2 σ H2 _ I2 q2) fun vu s3 ⟨u, H3, I3, pu, q3⟩ => ?_)
  rw [evalPart_none]
  refine wpAny_pure ?_
  have I4 : Inv X pins σ H3 { s3 with heap := s3.heap.push { cls := .type "slice", data := .fields #[vl, vu, .none] } } := I3.kept (t' := s3.toks) fun b ob q => Heap.get?_push_of_some _ q
  obtain ⟨T, id, hT, ht, hg⟩ := hr pins { s3 with heap := s3.heap.push { cls := .type "slice", data := .fields #[vl, vu, .none] } } σ H3 x v vl vu l u s3.heap.objs.size Q I4 r1 (Heap.IsSliceOf.new ..) pl pu q3
  show wpAny (model X.prog X.w) X.A (subscriptTail e (.Slice lo hi none p2) v (.ref s3.heap.objs.size)) (EP X pins σ Q) X.xe { s3 with heap := s3.heap.push { cls := .type "slice", data := .fields #[vl, vu, .none] } }
  exact tail_any (ops := [.ref s3.heap.objs.size, v]) ht hT hg (by with_unfolding_all rfl)
def cutV (xs : List V) (lo hi : Option Int) : List V := (xs.drop (HT.sIx xs.length 0 lo)).take (HT.sIx xs.length xs.length hi - HT.sIx xs.length 0 lo)
theorem cutV_length (xs : List V) (lo hi : Option Int) : (cutV xs lo hi).length ≤ xs.length := by
  unfold cutV
  rw [List.length_take, List.length_drop]
  omega
end
end L2
namespace L2
open PySem PySem.Spec PyProof.Rows
def ixN (n : Nat) (i : Int) : Option Nat := if 0 ≤ i then (if i < n then some i.toNat else none) else if -(n : Int) ≤ i then some (i + n).toNat else none
def atI {α : Type} (xs : List α) (i : Int) : Option α := (ixN xs.length i).bind fun j => xs[j]?
theorem ixN_seq {n : Nat} {i : Int} {j : Nat} (h : ixN n i = some j) : seqIndex? i n = some j ∧ j < n ∧ -(n : Int) ≤ i ∧ i < n := by
  unfold ixN at h
  by_cases h0 : 0 ≤ i
  · rw [if_pos h0] at h
    by_cases h1 : i < n
    · rw [if_pos h1] at h
      have e : i.toNat = j := Option.some.inj h
      exact ⟨by rw [seqIndex_of h0 h1, e], by omega, by omega, h1⟩
    · rw [if_neg h1] at h; cases h
  · rw [if_neg h0] at h
    by_cases h1 : -(n : Int) ≤ i
    · rw [if_pos h1] at h
      have e : (i + n).toNat = j := Option.some.inj h
      exact ⟨by rw [seqIndex_neg (by omega) h1, e], by omega, h1, by omega⟩
    · rw [if_neg h1] at h; cases h
theorem atI_get {α : Type} {xs : List α} {i : Int} {v : α} (h : atI xs i = some v) : ∃ j, seqIndex? i xs.length = some j ∧ xs[j]? = some v ∧ j < xs.length ∧ -(xs.length : Int) ≤ i ∧ i < xs.length := by
  unfold atI at h
  cases e : ixN xs.length i with
  | none => rw [e] at h; cases h
  | some j =>
    rw [e] at h
    obtain ⟨h1, h2, h3, h4⟩ := ixN_seq e
    exact ⟨j, h1, h, h2, h3, h4⟩
theorem atI_nat {α : Type} {xs : List α} {j : Nat} {v : α} (h : xs[j]? = some v) : atI xs (j : Int) = some v := by
  have hj : j < xs.length := (List.getElem?_eq_some_iff.mp h).1
  have e : ixN xs.length (j : Int) = some j := by
    unfold ixN
    rw [if_pos (by omega), if_pos (by omega)]; simp
  unfold atI; rw [e]; exact h
theorem atI_last {α : Type} (xs : List α) (v : α) : atI (xs ++ [v]) (-1) = some v := by
  have hl : (xs ++ [v]).length = xs.length + 1 := by simp
  have e : ixN (xs ++ [v]).length (-1) = some xs.length := by
    unfold ixN
    rw [hl, if_neg (by decide), if_pos (by omega)]
    congr 1
    omega
  unfold atI
  rw [e]
  show (xs ++ [v])[xs.length]? = some v
  simp
def PlainIx (b : Expr) : Prop := ∀ o i, subscripted b false o i = operate [o, i] (getItem o i)
def IxR (X : Cx) (r : R2) : Prop :=
  ∀ (value slice : Expr) (pins : List (Addr × Obj)) (s : Shared) (σ : St) (H : Hp) (x y : V) (v u : Value) (Q : VK), Inv X pins σ H s → RelV x v → RelV y u → r x y H Q →
    subscripted slice false v u = operate [v, u] (getItem v u) → wpAny (model X.prog X.w) X.A (subscriptTail value slice v u) (EP X pins σ Q) X.xe s
def MtR (X : Cx) (id : String) (r : V → List V → Hp → VK → Prop) : Prop :=
  ∀ (pins : List (Addr × Obj)) (s : Shared) (σ : St) (H : Hp) (x : V) (xs : List V) (v : Value) (us : List Value) (Q : VK), Inv X pins σ H s → RelV x v → Vals xs us → r x xs H Q →
    wpAny (model X.prog X.w) X.A (call (.builtin id) (v :: us)) (EP X pins σ Q) X.xe s
section
variable {X : Cx} {a b : Expr} {ta tb : TE} {pos : Pos}
theorem pe_ix {r : R2} (hr : IxR X r) (ha : PE X a ta) (hb : PE X b tb) (hs : PlainIx b) : PE X (.Subscript a b pos) (tOp r ta tb) := by
  intro pins s σ H Q I h
  exact Subscript_ (binT ha hb I h fun v u s2 x y H2 I2 rx ry q => hr a b pins s2 σ H2 x y v u Q I2 rx ry q (hs _ _))
def rIxL (K : PySem.W.Frag) : R2 := fun x y H Q => ∃ p xs i v, x = .ref p ∧ y = .int i ∧ SqL K H p xs ∧ atI xs i = some v ∧ Q v H
def rIxT (K : PySem.W.Frag) : R2 := fun x y H Q => ∃ p xs i v, x = .ref p ∧ y = .int i ∧ SqT K H p xs ∧ atI xs i = some v ∧ Q v H
theorem ix_list : IxR X (rIxL X.K) := by
  intro value slice pins s σ H x y v u Q I rx ry h hs
  obtain ⟨p, xs, i, z, rfl, rfl, hq, he, q⟩ := h
  cases rx
  obtain ⟨t, rfl⟩ := ry
  obtain ⟨its, r, pl, hz⟩ := I.list hq
  obtain ⟨j, h1, h2, h3, h4, h5⟩ := atI_get he
  obtain ⟨w, ew, rw'⟩ := r.get h2
  have hl := r.length
  have hn := line63
  have fin : EP X pins σ Q w s := ⟨z, H, I, rw', q⟩
  by_cases h0 : 0 ≤ i
  · have hj : i.toNat = j := by
      rw [seqIndex_of h0 h5] at h1
      exact Option.some.inj h1
    exact item_listR pl.isList h0 (by omega) (by rw [hj]; simpa using ew) fin hs
  · have hj : (i + (its.toArray.size : Int)).toNat = j := by
      rw [seqIndex_neg (by omega) h4] at h1
      rw [List.size_toArray, ← hl]
      exact Option.some.inj h1
    exact subscriptTail_builtinR (x := w) pl.isList.typeIs slot_list_getitem.lookup
      (wpAny_getItem_list_neg (Q := fun r s' => r = w ∧ EP X pins σ Q r s') pl.isList (by omega) (by rw [List.size_toArray] <;> omega) (by omega) (by rw [hj]; simpa using ew) ⟨rfl, fin⟩) hs
theorem ix_tup : IxR X (rIxT X.K) := by
  intro value slice pins s σ H x y v u Q I rx ry h hs
  obtain ⟨p, xs, i, z, rfl, rfl, hq, he, q⟩ := h
  cases rx
  obtain ⟨t, rfl⟩ := ry
  obtain ⟨its, r, pl, hz⟩ := I.tuple hq
  obtain ⟨j, h1, h2, h3, h4, h5⟩ := atI_get he
  obtain ⟨w, ew, rw'⟩ := r.get h2
  have hl := r.length
  have hn := line63
  have fin : EP X pins σ Q w s := ⟨z, H, I, rw', q⟩
  exact subscriptTail_builtinR (x := w) pl.typeIs slot_tuple_getitem.lookup
    (getItem_tuple (j := j) (Q := fun r s' => r = w ∧ EP X pins σ Q r s') pl (by omega) (by omega) (by rw [List.size_toArray, ← hl]; exact h1) (by simpa using ew) ⟨rfl, fin⟩) hs
theorem mapSeq_set (its : List Value) (n j : Nat) (u : Value) : Obj.mapSeq (·.setIfInBounds j u) { cls := .type "list", data := .seq its.toArray n } = { cls := .type "list", data := .seq (its.set j u).toArray n } := by
  simp [Obj.mapSeq]
theorem Inv.lst {pins : List (Addr × Obj)} {σ : St} {H : Hp} {s : Shared} {p : Addr} {xs : List V} (I : Inv X pins σ H s) (h : H p = some (.lst xs)) :
    ∃ (its : List Value) (n : Nat), Vals xs its ∧ s.heap.get? p = some { cls := .type "list", data := .seq its.toArray n } ∧ xs.length ≤ sizeLine := by
  obtain ⟨z, its, n, r, e⟩ := I.hok p _ h
  exact ⟨its, n, r, e, z⟩
theorem Inv.lstUpd {pins : List (Addr × Obj)} {σ : St} {H : Hp} {s : Shared} {p : Addr} {xs ys : List V} {its its' : List Value} {n n' : Nat} {f : Obj → Obj} (I : Inv X pins σ H s) (h : H p = some (.lst xs))
    (ho : s.heap.get? p = some { cls := .type "list", data := .seq its.toArray n }) (hf : f { cls := .type "list", data := .seq its.toArray n } = { cls := .type "list", data := .seq its'.toArray n' }) (r : Vals ys its') (hz : ys.length ≤ sizeLine) (t : Nat) :
    Inv X pins σ (upd H p (.lst ys)) { s with heap := s.heap.update p f, toks := t } := by
  have e : (s.heap.update p f).get? p = some { cls := .type "list", data := .seq its'.toArray n' } := by
    rw [Heap.get?_update_self f ho (by rw [hf] <;> rfl), hf]
  refine I.write (x := p) (e := p) (by rw [h]; trivial) (.inl rfl) (fun b u hb q => (Heap.get?_update_other _ _ (Ne.symm hb)).trans q) ⟨_, e⟩ ?_
  exact ⟨hz, its', n', r, e⟩
def rSetL : V → V → V → Hp → (Hp → Prop) → Prop := fun o i v H Q => ∃ p xs k j, o = .ref p ∧ i = .int k ∧ H p = some (.lst xs) ∧ ixN xs.length k = some j ∧ Q (upd H p (.lst (xs.set j v)))
theorem set_list : PSet X rSetL := by
  intro pins s σ H o i v ov iv u Q I ro ri rv h
  obtain ⟨p, xs, k, j, rfl, rfl, hp, hj, q⟩ := h
  cases ro
  obtain ⟨t, rfl⟩ := ri
  obtain ⟨its, n, r, ho, hz⟩ := I.lst hp
  obtain ⟨h1, h2, h3, h4⟩ := ixN_seq hj
  have hl := r.length
  have hn := line63
  have I' : Inv X pins σ (upd H p (.lst (xs.set j v))) { s with heap := s.heap.update p (Obj.mapSeq (·.setIfInBounds j u)) } :=
    I.lstUpd hp ho (mapSeq_set its n j u) (r.set rv j) (by rw [List.length_set]; exact hz) s.toks
  by_cases h0 : 0 ≤ k
  · have hk : k.toNat = j := by
      rw [seqIndex_of h0 h4] at h1
      exact Option.some.inj h1
    exact PySem.W.ki_setAt ho h0 (by omega) (by rw [List.size_toArray, ← hl]; exact h4) (by rw [hk]; exact ⟨_, I', q⟩)
  · have hk : (k + (its.toArray.size : Int)).toNat = j := by
      rw [seqIndex_neg (by omega) h3] at h1
      rw [List.size_toArray, ← hl]
      exact Option.some.inj h1
    exact PySem.W.ki_setBack ho (by omega) (by rw [List.size_toArray, ← hl]; exact h3) (by omega) (by rw [hk]; exact ⟨_, I', q⟩)
theorem slice_bounds (lo hi : Option Int) (n : Nat) : (sliceBounds lo hi none n).1 = ((HT.sIx n 0 lo : Nat) : Int) ∧ (sliceBounds lo hi none n).2.1 = ((HT.sIx n n hi : Nat) : Int) ∧ (sliceBounds lo hi none n).2.2 = 1 := by
  refine ⟨?_, ?_, rfl⟩
  · cases lo with
    | none => simp [sliceBounds, HT.sIx]
    | some i =>
      simp only [sliceBounds, HT.sIx, Option.getD_none, show (1 : Int) > 0 by decide, if_true]
      by_cases h : i < 0
      · simp only [h, if_true] <;> omega
      · simp only [h, if_false] <;> omega
  · cases hi with
    | none => simp [sliceBounds, HT.sIx]
    | some i =>
      simp only [sliceBounds, HT.sIx, Option.getD_none, show (1 : Int) > 0 by decide, if_true]
      by_cases h : i < 0
      · simp only [h, if_true] <;> omega
      · simp only [h, if_false] <;> omega
theorem slicePick_cut (its : List Value) (lo hi : Option Int) : slicePick its.toArray lo hi none = ((its.drop (HT.sIx its.length 0 lo)).take (HT.sIx its.length its.length hi - HT.sIx its.length 0 lo)).toArray := by
  obtain ⟨h1, h2, h3⟩ := slice_bounds lo hi its.toArray.size
  unfold slicePick
  rw [h1, h2, h3]
  simp only [sliceRange_one, pick_run, List.size_toArray] <;> rfl
def rSlL (K : PySem.W.Frag) : V → Option Int → Option Int → Hp → VK → Prop := fun x lo hi H Q => ∃ a xs, x = .ref a ∧ SqL K H a xs ∧ ∀ p, H p = none → Q (.ref p) (upd H p (.lst (cutV xs lo hi)))
theorem sl_list : SlR X (rSlL X.K) := by
  intro pins s σ H x v vl vu lo hi sl Q I rx hs pl pu h
  obtain ⟨a, xs, rfl, hx, q⟩ := h
  cases rx
  obtain ⟨its, r, ht, hz⟩ := I.list hx
  have hlen := r.length
  refine ⟨"list", _, slot_list_getitem.lookup, ht.isList.typeIs, ?_⟩
  refine wpAny_getItem_list_slice ht.isList hs pl pu .none (by simp) ?_ (by rw [List.size_toArray] <;> omega)
  rw [slicePick_cut, ← hlen]
  refine ⟨.ref s.heap.objs.size, _, I.laid (t' := s.toks) (o := .lst (cutV xs lo hi)) (fun b ob q => Heap.get?_push_of_some _ q) (Nat.le_refl _) ?_, rfl, q _ (I.hok.fresh (Nat.le_refl _))⟩
  exact ⟨Nat.le_trans (cutV_length xs lo hi) hz, _, 0, (r.drop (HT.sIx xs.length 0 lo)).take (HT.sIx xs.length xs.length hi - HT.sIx xs.length 0 lo), Heap.get?_push_size _ rfl⟩
def flatV : V → Bool
  | .non => true
  | .bl _ => true
  | .int _ => true
  | .str _ => true
  | _ => false
def eqV : V → V → Bool
  | .non, .non => true
  | .bl a, .bl b => a == b
  | .bl a, .int b => (if a then 1 else 0) == b
  | .int a, .bl b => a == (if b then 1 else 0)
  | .int a, .int b => a == b
  | .str a, .str b => a == b
  | _, _ => false
theorem eqAt_V {A : Around} {s : Shared} {y x : V} {u v : Value} (ry : RelV y u) (rx : RelV x v) (fy : flatV y = true) (fx : flatV x = true) : SeqAt.EqAt A s u v (eqV y x) := by
  cases y with
  | non =>
    cases ry
    cases x with
    | non => cases rx; exact SeqAt.EqAt.same _
    | bl b => cases rx; exact SeqAt.EqAt.none_bool b
    | int b => obtain ⟨t, rfl⟩ := rx; exact SeqAt.EqAt.none_int b t
    | str b => obtain ⟨t, rfl⟩ := rx; exact SeqAt.EqAt.none_str b t
    | _ => exact absurd (show false = true from fx) Bool.false_ne_true
  | bl a =>
    cases ry
    cases x with
    | non => cases rx; exact SeqAt.EqAt.bool_none a
    | bl b => cases rx; exact SeqAt.EqAt.bool_bool a b
    | int b => obtain ⟨t, rfl⟩ := rx; exact SeqAt.EqAt.bool_int a b t
    | str b => obtain ⟨t, rfl⟩ := rx; exact SeqAt.EqAt.bool_str a b t
    | _ => exact absurd (show false = true from fx) Bool.false_ne_true
  | int a =>
    obtain ⟨t', rfl⟩ := ry
    cases x with
    | non => cases rx; exact SeqAt.EqAt.int_none a t'
    | bl b => cases rx; exact SeqAt.EqAt.int_bool a t' b
    | int b => obtain ⟨t, rfl⟩ := rx; exact SeqAt.EqAt.int_int a t' b t
    | str b => obtain ⟨t, rfl⟩ := rx; exact SeqAt.EqAt.int_str a t' b t
    | _ => exact absurd (show false = true from fx) Bool.false_ne_true
  | str a =>
    obtain ⟨t', rfl⟩ := ry
    cases x with
    | non => cases rx; exact SeqAt.EqAt.str_none a t'
    | bl b => cases rx; exact SeqAt.EqAt.str_bool a t' b
    | int b => obtain ⟨t, rfl⟩ := rx; exact SeqAt.EqAt.str_int a t' b t
    | str b => obtain ⟨t, rfl⟩ := rx; exact SeqAt.EqAt.str_str a t' b t
    | _ => exact absurd (show false = true from fx) Bool.false_ne_true
  | _ => exact absurd (show false = true from fy) Bool.false_ne_true
def eqU (x : V) (u : Value) : Bool := match u with
  | .none => eqV .non x
  | .bool b => eqV (.bl b) x
  | .int i _ => eqV (.int i) x
  | .str z _ => eqV (.str z) x
  | _ => false
theorem eqU_of {x y : V} {u : Value} (r : RelV y u) (f : flatV y = true) : eqU x u = eqV y x := by
  cases y with
  | non => cases r; rfl
  | bl b => cases r; rfl
  | int i => obtain ⟨t, rfl⟩ := r; rfl
  | str z => obtain ⟨t, rfl⟩ := r; rfl
  | _ => exact absurd (show false = true from f) Bool.false_ne_true
theorem any_eqU {x : V} : ∀ {xs : List V} {us : List Value}, Vals xs us → xs.all flatV = true → us.any (eqU x) = xs.any fun y => eqV y x
  | _, _, .nil, _ => rfl
  | y :: xs, u :: us, .cons r t, f => by
    rw [List.all_cons, Bool.and_eq_true] at f
    rw [List.any_cons, List.any_cons, eqU_of r f.1, any_eqU t f.2]
theorem mem_eqAt {A : Around} {s : Shared} {x : V} {v : Value} (rx : RelV x v) (fx : flatV x = true) : ∀ {xs : List V} {us : List Value}, Vals xs us → xs.all flatV = true → ∀ u ∈ us, SeqAt.EqAt A s u v (eqU x u)
  | _, _, .nil, _ => fun u hu => by cases hu
  | y :: xs, u :: us, .cons r t, f => fun u' hu => by
    rw [List.all_cons, Bool.and_eq_true] at f
    rcases List.mem_cons.mp hu with rfl | hu
    · rw [eqU_of r f.1]; exact eqAt_V r rx f.1 fx
    · exact mem_eqAt rx fx t f.2 u' hu
def inV (x : V) (xs : List V) : Bool := xs.any fun y => eqV y x
def rIn (K : PySem.W.Frag) (neg : Bool) : R2 := fun x y H Q => ∃ p xs, y = .ref p ∧ (SqL K H p xs ∨ SqT K H p xs) ∧ flatV x = true ∧ xs.all flatV = true ∧ Q (.bl (if neg then !inV x xs else inV x xs)) H
theorem op_in_seq : OpR X (compareOp .In) (rIn X.K false) := by
  intro pins s σ H x y v u Q I rx ry h
  obtain ⟨p, xs, rfl, hq, fx, fs, q⟩ := h
  cases ry
  rcases hq with hq | hq
  · obtain ⟨its, r, pl, hz⟩ := I.list hq
    refine SeqAt.in_listAt (eqU x) pl.isList (fun w hw => mem_eqAt rx fx r fs w (by simpa using hw)) ⟨.bl _, H, I, rfl, ?_⟩
    rw [show its.toArray.any (eqU x) = its.any (eqU x) by simp, any_eqU r fs]
    exact q
  · obtain ⟨its, r, pl, hz⟩ := I.tuple hq
    refine SeqAt.in_tupleAt (eqU x) pl (fun w hw => mem_eqAt rx fx r fs w (by simpa using hw)) ⟨.bl _, H, I, rfl, ?_⟩
    rw [show its.toArray.any (eqU x) = its.any (eqU x) by simp, any_eqU r fs]
    exact q
theorem op_notIn_seq : OpR X (compareOp .NotIn) (rIn X.K true) := by
  intro pins s σ H x y v u Q I rx ry h
  obtain ⟨p, xs, rfl, hq, fx, fs, q⟩ := h
  cases ry
  rcases hq with hq | hq
  · obtain ⟨its, r, pl, hz⟩ := I.list hq
    refine SeqAt.notIn_listAt (eqU x) pl.isList (fun w hw => mem_eqAt rx fx r fs w (by simpa using hw)) ⟨.bl _, H, I, rfl, ?_⟩
    rw [show its.toArray.any (eqU x) = its.any (eqU x) by simp, any_eqU r fs]
    exact q
  · obtain ⟨its, r, pl, hz⟩ := I.tuple hq
    refine SeqAt.notIn_tupleAt (eqU x) pl (fun w hw => mem_eqAt rx fx r fs w (by simpa using hw)) ⟨.bl _, H, I, rfl, ?_⟩
    rw [show its.toArray.any (eqU x) = its.any (eqU x) by simp, any_eqU r fs]
    exact q
theorem call_len_seq : CallR X (.builtin "len") (fun xs H Q => ∃ p ys, xs = [.ref p] ∧ (SqL X.K H p ys ∨ SqT X.K H p ys) ∧ Q (.int ys.length) H) := by
  intro pins s σ H xs us Q I r h
  obtain ⟨p, ys, rfl, hq, q⟩ := h
  obtain ⟨u, rfl, rx⟩ := vals1 r
  cases rx
  have hn := line63
  rcases hq with hq | hq
  · obtain ⟨its, r', pl, hz⟩ := I.list hq
    have hlen := r'.length
    exact Calls.call_len_list pl.isList (by simp only [List.size_toArray] <;> omega) ⟨.int ys.length, H, I.tok _, ⟨s.toks + 1, by rw [List.size_toArray, hlen]⟩, q⟩
  · obtain ⟨its, r', pl, hz⟩ := I.tuple hq
    have hlen := r'.length
    exact len_tuple pl (by simp only [List.size_toArray] <;> omega) ⟨.int ys.length, H, I.tok _, ⟨s.toks + 1, by rw [List.size_toArray, hlen]⟩, q⟩
theorem call_list_of : CallR X (.type "list") (fun xs H Q => ∃ p ys, xs = [.ref p] ∧ (SqL X.K H p ys ∨ SqT X.K H p ys) ∧ ∀ l, H l = none → Q (.ref l) (upd H l (.lst ys))) := by
  intro pins s σ H xs us Q I r h
  obtain ⟨p, ys, rfl, hq, q⟩ := h
  obtain ⟨u, rfl, rx⟩ := vals1 r
  cases rx
  have fin : ∀ (its : List Value), Vals ys its → ys.length ≤ sizeLine → ∀ (h' : Heap) (c' : Nat), (∀ b o', s.heap.get? b = some o' → h'.get? b = some o') →
      h'.get? s.heap.objs.size = some { cls := .type "list", dict := none, data := .seq its.toArray c', slots := #[] } → EP X pins σ Q (.ref s.heap.objs.size) { s with heap := h' } := fun its r' hz h' c' kp e =>
    ⟨.ref s.heap.objs.size, _, I.laid (t' := s.toks) kp (Nat.le_refl _) (show ObjOk X.prog X.w _ h' _ (.lst ys) from ⟨hz, its, c', r', e⟩), rfl, q _ (I.hok.fresh (Nat.le_refl _))⟩
  rcases hq with hq | hq
  · obtain ⟨its, r', pl, hz⟩ := I.list hq
    have hlen := r'.length
    obtain ⟨o, ho, hc, n, hd⟩ := pl.isList
    exact call_list_seq p (.inl rfl) ho hc hd (fun h' c' kp e => fin its r' hz h' c' kp e) (by simp only [List.size_toArray] <;> omega)
  · obtain ⟨its, r', pl, hz⟩ := I.tuple hq
    have hlen := r'.length
    obtain ⟨o, ho, hc, n, hd⟩ := pl
    exact call_list_seq p (.inr rfl) ho hc hd (fun h' c' kp e => fin its r' hz h' c' kp e) (by simp only [List.size_toArray] <;> omega)
def tyV (K : PySem.W.Frag) (T : String) (x : V) (H : Hp) : Prop := match x with
  | .str _ => T = "str"
  | .int _ => T = "int"
  | .ref p => (T = "list" ∧ ∃ xs, SqL K H p xs) ∨ (T = "tuple" ∧ ∃ o, K.lookup p = some o ∧ o.cls = .type "tuple" ∧ o.dict = none) ∨
      (T = "dict" ∧ ((∃ kvs, H p = some (.dK kvs)) ∨ ∃ kvs, H p = some (.dT kvs))) ∨ (T = "set" ∧ ∃ S n, H p = some (.set S n))
  | _ => False
theorem tyV_is {pins : List (Addr × Obj)} {σ : St} {H : Hp} {s : Shared} {T : String} {x : V} {v : Value} (I : Inv X pins σ H s) (r : RelV x v) (ty : tyV X.K T x H) :
    s.TypeIs v T ∧ ∀ a, v = .ref a → ∃ ob, s.heap.get? a = some ob ∧ ob.dict = none := by
  cases x with
  | str z =>
    obtain ⟨t, rfl⟩ := r
    cases (show T = "str" from ty)
    exact ⟨typeIs_str s z t, fun _ e => nomatch e⟩
  | int i =>
    obtain ⟨t, rfl⟩ := r
    cases (show T = "int" from ty)
    exact ⟨typeIs_int s i t, fun _ e => nomatch e⟩
  | ref p =>
    cases r
    rcases ty with ⟨rfl, xs, hq⟩ | ⟨rfl, o, hk, hc, hd⟩ | ⟨rfl, hk⟩ | ⟨rfl, S, n, hk⟩
    · obtain ⟨its, _, pl, _⟩ := I.list hq
      refine ⟨pl.isList.typeIs, fun a e => ?_⟩
      cases e
      obtain ⟨o, n, e, c, hd, _⟩ := pl
      exact ⟨o, e, hd⟩
    · refine ⟨⟨o, I.kIn p o hk, hc⟩, fun a e => ?_⟩
      cases e
      exact ⟨o, I.kIn _ o hk, hd⟩
    · have z : ∃ o, s.heap.get? p = some o ∧ o.ExactDict := by
        rcases hk with ⟨kvs, hk⟩ | ⟨kvs, hk⟩
        · obtain ⟨_, _, _, _, o, _, _, e, ex, _⟩ := I.hok p _ hk
          exact ⟨o, e, ex⟩
        · obtain ⟨_, _, _, _, o, _, _, e, ex, _⟩ := I.hok p _ hk
          exact ⟨o, e, ex⟩
      obtain ⟨o, e, ex⟩ := z
      refine ⟨⟨o, e, ex.1⟩, fun a e2 => ?_⟩
      cases e2
      exact ⟨o, e, ex.2.1⟩
    · obtain ⟨o, _, _, _, e, ex, _⟩ := I.hok p _ hk
      refine ⟨⟨o, e, ex.1⟩, fun a e2 => ?_⟩
      cases e2
      exact ⟨o, e, ex.2.1⟩
  | _ => exact False.elim ty
def tBM0 (K : PySem.W.Frag) (T : String) (r : V → List V → Hp → VK → Prop) (to : TE) : TE := fun σ H Q => to σ H fun x H1 => tyV K T x H1 ∧ r x [] H1 Q
def tBM (K : PySem.W.Frag) (T : String) (r : V → List V → Hp → VK → Prop) (to : TE) (t : TA) : TE := fun σ H Q => to σ H fun x H1 => tyV K T x H1 ∧ t σ H1 fun xs H2 => r x xs H2 Q
variable {o e : Expr} {es : List Expr} {to : TE} {t : TA} {name : Str} {apos cpos : Pos} {T id : String} {r : V → List V → Hp → VK → Prop}
theorem pe_bm0 (pa : PlainAttrs T) (slot : Slot T name id) (hty : typeOf (.builtin id) = pure (.type "method_descriptor")) (hm : MtR X id r) (ho : PE X o to)
    (hbase : attributeBase o name X.env (eval o X.env) = eval o X.env := by rfl) (hline : (apos.endLine == cpos.line) = true := by rfl) : PE X (.Call (.Attribute o name apos) [] [] cpos) (tBM0 X.K T r to) := by
  intro pins s σ H Q I h
  refine wpAny_Call_method0_late hbase hline (thn (ho pins s σ H _ I h) fun v s1 ⟨x, H1, I1, r1, ty, q1⟩ => ?_)
  obtain ⟨h1, h2⟩ := tyV_is I1 r1 ty
  exact ⟨T, id, pa, slot, hty, h1, h2, Calls.callWith_builtin rfl (PySem.evalArgs_none (hm pins s1 σ H1 x [] v [] Q I1 r1 .nil q1))⟩
theorem pe_bm (pa : PlainAttrs T) (slot : Slot T name id) (hty : typeOf (.builtin id) = pure (.type "method_descriptor")) (hm : MtR X id r) (ho : PE X o to) (ha : PA X (e :: es) t)
    (hbase : attributeBase o name X.env (eval o X.env) = eval o X.env := by rfl)
    (hfew : ((backTo cpos (starEach (e :: es) X.env)).all (fun x => !x.1) && (backToKw cpos (keywordEach [] X.env)).all (fun x => x.1.isSome)
      && decide ((e :: es).length + ([] : List Keyword).length + (if ([] : List Keyword).isEmpty then 0 else 1) < 30)) = true := by rfl)
    (hline : (apos.endLine == cpos.line) = true := by rfl) (hs : starEach (e :: es) X.env = (false, eval e X.env) :: starEach es X.env := by rfl) (hplain : (backTo cpos (starEach es X.env)).any (·.1) = false := by rfl) :
    PE X (.Call (.Attribute o name apos) (e :: es) [] cpos) (tBM X.K T r to t) := by
  intro pins s σ H Q I h
  refine wpAny_Call_method_late hbase hfew hline rfl (thn (ho pins s σ H _ I h) fun v s1 ⟨x, H1, I1, r1, ty, q1⟩ => ?_)
  obtain ⟨h1, h2⟩ := tyV_is I1 r1 ty
  refine ⟨T, id, pa, slot, hty, h1, h2, ?_⟩
  have hA := ha cpos pins s1 σ H1 _ I1 q1
  rw [hs] at hA ⊢
  refine Calls.callWith_builtin (by show (false || (backTo cpos (starEach es X.env)).any (·.1)) = false; rw [hplain] <;> rfl) (Calls.evalArgs_plain ?_)
  exact thn hA fun us s2 ⟨vs, H2, I2, r2, q2⟩ => hm pins s2 σ H2 x vs v us Q I2 r1 r2 q2
end
end L2
namespace L2
open PySem PySem.Spec PyProof.Rows
def MtM (X : Cx) (id : String) (r : V → List V → Hp → VK → Prop) : Prop :=
  ∀ (pins : List (Addr × Obj)) (s : Shared) (σ : St) (H : Hp) (x : V) (xs : List V) (v : Value) (us : List Value) (Q : VK), Inv X pins σ H s → RelV x v → Vals xs us → r x xs H Q →
    wpAny (model X.prog X.w) X.A (call (.builtin id) (v :: us)) (EP X pins σ Q) X.xe s
theorem Vals.one : ∀ {x : V} {us : List Value}, Vals [x] us → ∃ u, us = [u] ∧ RelV x u
  | _, _, .cons r .nil => ⟨_, rfl, r⟩
theorem Vals.two : ∀ {x y : V} {us : List Value}, Vals [x, y] us → ∃ u v, us = [u, v] ∧ RelV x u ∧ RelV y v
  | _, _, _, .cons r (.cons q .nil) => ⟨_, _, rfl, r, q⟩
theorem Vals.zero : ∀ {us : List Value}, Vals [] us → us = []
  | _, .nil => rfl
theorem Vals.eraseIdx : ∀ {xs : List V} {us : List Value} (i : Nat), Vals xs us → Vals (xs.eraseIdx i) (us.eraseIdx i)
  | _, _, _, .nil => .nil
  | _, _, 0, .cons _ t => t
  | _, _, i + 1, .cons r t => .cons r (Vals.eraseIdx i t)
theorem len_erase {α : Type} : ∀ (l : List α) (i : Nat), (l.eraseIdx i).length ≤ l.length
  | [], _ => Nat.le_refl _
  | _ :: _, 0 => Nat.le_succ _
  | _ :: r, i + 1 => Nat.succ_le_succ (len_erase r i)
section
variable {X : Cx} {pins : List (Addr × Obj)} {σ : St} {H : Hp} {s : Shared} {l b : Addr} {xs ys zs : List V}
theorem Inv.lset {its its' : List Value} {n : Nat} {f : Array Value → Array Value} {t' : Nat} (I : Inv X pins σ H s) (hH : H l = some (.lst xs))
    (e : s.heap.get? l = some { cls := .type "list", data := .seq its.toArray n }) (hf : f its.toArray = its'.toArray) (hv : Vals ys its') (hz : ys.length ≤ sizeLine) :
    Inv X pins σ (upd H l (.lst ys)) { s with heap := s.heap.update l (Obj.mapSeq f), toks := t' } := by
  have q := PySem.IsL.update e f
  rw [hf] at q
  refine I.write (x := l) (e := l) (by rw [hH]; exact trivial) (.inl rfl) (fun b' u hb hu => (Heap.get?_update_other s.heap (Obj.mapSeq f) (Ne.symm hb)).trans hu) ⟨_, q⟩ ?_
  exact ⟨hz, its', _, hv, q⟩
theorem Inv.lnew {its : List Value} {t' : Nat} (I : Inv X pins σ H s) (hv : Vals ys its) (hz : ys.length ≤ sizeLine) :
    Inv X pins σ (upd H s.heap.objs.size (.lst ys)) { s with heap := s.heap.push { cls := .type "list", data := .seq its.toArray }, toks := t' } :=
  I.laid (fun _ _ q => Heap.get?_push_of_some _ q) (Nat.le_refl _) ⟨hz, its, 0, hv, Heap.get?_push_size _ rfl⟩
theorem Inv.fresh (I : Inv X pins σ H s) : H s.heap.objs.size = none := I.hok.fresh (Nat.le_refl _)
theorem Inv.lstM (I : Inv X pins σ H s) (hH : H l = some (.lst xs)) : xs.length ≤ sizeLine ∧ ∃ (its : List Value) (n : Nat), Vals xs its ∧ xs.length = its.length ∧ s.heap.get? l = some { cls := .type "list", data := .seq its.toArray n } := by
  obtain ⟨z, its, n, r, e⟩ := I.hok l _ hH
  exact ⟨z, its, n, r, r.length, e⟩
theorem notLongL {n : Nat} (h : n ≤ sizeLine) : Builtin.List.listTooLong n = false := by
  unfold Builtin.List.listTooLong
  exact decide_eq_false (by omega)
end
section
variable {X : Cx}
def rAppend : V → List V → Hp → VK → Prop := fun x vs H Q => ∃ l xs y, x = .ref l ∧ vs = [y] ∧ H l = some (.lst xs) ∧ xs.length < sizeLine ∧ Q .non (upd H l (.lst (xs ++ [y])))
theorem mt_append : MtM X "list.append" rAppend := by
  intro pins s σ H x vs v us Q I rx rv h
  obtain ⟨l, xs, y, rfl, rfl, hH, hz, q⟩ := h
  cases rx
  obtain ⟨u, rfl, ru⟩ := rv.one
  obtain ⟨z, its, n, r, hl, e⟩ := I.lstM hH
  refine call_meets F.slot_list_append ⟨_, e, rfl⟩ F.entry_list_append (F.args_list_append_2 _ _) (PySem.list_append l its.toArray n u (by rw [List.size_toArray]; omega)) ⟨e, ?_⟩
  refine ⟨.non, _, I.lset (its' := its ++ [u]) hH e (by simp) (r.append (.cons ru .nil)) ?_, rfl, q⟩
  rw [List.length_append, List.length_singleton]
  omega
def rExtend : V → List V → Hp → VK → Prop := fun x vs H Q => ∃ l b xs zs, x = .ref l ∧ vs = [.ref b] ∧ H l = some (.lst xs) ∧ H b = some (.lst zs) ∧ xs.length + zs.length ≤ sizeLine ∧ Q .non (upd H l (.lst (xs ++ zs)))
theorem mt_extend : MtM X "list.extend" rExtend := by
  intro pins s σ H x vs v us Q I rx rv h
  obtain ⟨l, b, xs, zs, rfl, rfl, hH, hB, hz, q⟩ := h
  cases rx
  obtain ⟨u, rfl, ru⟩ := rv.one
  cases ru
  obtain ⟨z, its, n, r, hl, e⟩ := I.lstM hH
  obtain ⟨z2, its2, n2, r2, hl2, e2⟩ := I.lstM hB
  have hsz : its.toArray.size + its2.toArray.size ≤ sizeLine := by rw [List.size_toArray, List.size_toArray]; omega
  have hlong : ¬ (!its.toArray.isEmpty && Builtin.List.listTooLong (its.toArray.size + its2.toArray.size)) = true := by
    rw [notLongL hsz, Bool.and_false]
    exact Bool.false_ne_true
  refine call_meets F.slot_list_extend ⟨_, e, rfl⟩ F.entry_list_extend (F.args_list_extend_2 _ _)
    (AutoSeq1.list_extend_list_list_0 l its.toArray n b its2.toArray n2 hlong (by rw [List.size_toArray]; omega) (by omega)) ⟨e, e2, ?_⟩
  refine ⟨.non, _, I.lset (its' := its ++ its2) hH e (by simp) (r.append r2) ?_, rfl, q⟩
  rw [List.length_append]
  omega
def rPopAt : V → List V → Hp → VK → Prop := fun x vs H Q => ∃ l xs i k y, x = .ref l ∧ vs = [.int i] ∧ H l = some (.lst xs) ∧ -(2 ^ 63) ≤ i ∧ i < 2 ^ 63 ∧ seqIndex? i xs.length = some k ∧ xs[k]? = some y ∧ Q y (upd H l (.lst (xs.eraseIdx k)))
theorem mt_popAt : MtM X "list.pop" rPopAt := by
  intro pins s σ H x vs v us Q I rx rv h
  obtain ⟨l, xs, i, k, y, rfl, rfl, hH, h1, h2, hk, hy, q⟩ := h
  cases rx
  obtain ⟨u, rfl, ru⟩ := rv.one
  obtain ⟨t, rfl⟩ := ru
  obtain ⟨z, its, n, r, hl, e⟩ := I.lstM hH
  obtain ⟨w, hw, rw'⟩ := r.get hy
  refine call_meets F.slot_list_pop ⟨_, e, rfl⟩ F.entry_list_pop (F.args_list_pop_2 _ _)
    (MeetsSeq.list_pop_at l its.toArray n i t k w (fitsIndex_both h1 h2) (by rw [List.size_toArray, ← hl]; exact hk) (by rw [← Array.getElem?_toList]; exact hw) (by rw [List.size_toArray]; omega)) ⟨e, ?_⟩
  refine ⟨y, _, I.lset (its' := its.eraseIdx k) hH e ?_ (r.eraseIdx k) ?_, rw', q⟩
  · show its.toArray.eraseIdxIfInBounds k = (its.eraseIdx k).toArray
    rw [List.eraseIdxIfInBounds_toArray]
  · have := len_erase xs k
    omega
def rClear : V → List V → Hp → VK → Prop := fun x vs H Q => ∃ l xs, x = .ref l ∧ vs = [] ∧ H l = some (.lst xs) ∧ Q .non (upd H l (.lst []))
theorem mt_clear : MtM X "list.clear" rClear := by
  intro pins s σ H x vs v us Q I rx rv h
  obtain ⟨l, xs, rfl, rfl, hH, q⟩ := h
  cases rx
  have hus := rv.zero
  subst hus
  obtain ⟨z, its, n, r, hl, e⟩ := I.lstM hH
  refine call_meets F.slot_list_clear ⟨_, e, rfl⟩ F.entry_list_clear (F.args_list_clear_1 _) (AutoSeq1.list_clear_list_0 l its.toArray n (by rw [List.size_toArray]; omega)) ⟨e, ?_⟩
  exact ⟨.non, _, I.lset (its' := []) (ys := []) hH e rfl .nil (Nat.zero_le _), rfl, q⟩
def rCat : R2 := fun x y H Q => ∃ l b xs zs, x = .ref l ∧ y = .ref b ∧ H l = some (.lst xs) ∧ H b = some (.lst zs) ∧ xs.length + zs.length ≤ sizeLine ∧ ∀ p, H p = none → Q (.ref p) (upd H p (.lst (xs ++ zs)))
theorem op_cat : OpR X (binaryOp .Add) rCat := by
  intro pins s σ H x y v u Q I rx ry h
  obtain ⟨l, b, xs, zs, rfl, rfl, hH, hB, hz, q⟩ := h
  cases rx
  cases ry
  obtain ⟨z, its, n, r, hl, e⟩ := I.lstM hH
  obtain ⟨z2, its2, n2, r2, hl2, e2⟩ := I.lstM hB
  refine PySem.P.add_list e e2 ?_ (by rw [List.size_toArray, List.size_toArray]; omega)
  have ea : its.toArray ++ its2.toArray = (its ++ its2).toArray := by simp
  rw [ea]
  exact ⟨.ref _, _, I.lnew (t' := s.toks) (r.append r2) (by rw [List.length_append]; omega), rfl, q _ I.fresh⟩
end
section
variable {prog : Program} {w : World} {A : Around} {E : Value → Shared → Prop} {s : Shared}
end
section
variable {X : Cx}
end
end L2
namespace Att
open PySem PySem.W PySem.Calls PyProof.Rows
theorem ints_of_wellAll {P : Params} {h : Heap} : ∀ (ns : List Int) (vs : List Value), WellAll P h vs (ns.map WData.int) → IntsAre vs ns := by
  intro ns
  induction ns with
  | nil =>
    intro vs w
    rw [List.map_nil] at w
    cases w
    exact .nil
  | cons n ns ih =>
    intro vs w
    rw [List.map_cons] at w
    cases w with
    | cons a b =>
      cases a
      exact .cons _ _ (ih _ b)
theorem script_of {l : OpenLaw} {n : Nat} (hn : l.most = some n) {P : Params} {h : Heap} {args : List WData} {vals : List Value}
    (hpre : l.row.toRowW.claim.pre args = true) (hwl : WellAll P h vals args) :
    ∃ a vs ns, vals = [Value.ref a] ∧ args = [WData.list (ns.map WData.int)] ∧ h.get? a = some { cls := .type "list", data := .seq vs.toArray } ∧ IntsAre vs ns ∧ ns.length ≤ n := by
  have hsh : WShape.hasAll [] args [.list .int] = true := (pre_splitW hpre).1
  have hc : l.pre.holds [] { args := args } = true := (pre_splitW hpre).2
  obtain ⟨d, r, rfl, h1, h2⟩ := hasAllW_cons hsh
  obtain rfl := hasAllW_nil h2
  obtain ⟨xs, rfl, h3⟩ := hasW_list h1
  obtain ⟨ns, rfl⟩ := items_int h3
  have hlen : ns.length ≤ n := by
    unfold OpenLaw.pre at hc
    have h4 : (WTm.not (.lt (.lit (.int (n : Int))) (.len (.arg 0)))).holds [] { args := [.list (ns.map .int)] } = true := by
      have h4 := (holds_andW hc).1
      rw [hn] at h4
      exact h4
    have h5 := condW_of h4 (w_not (w_lt w_lit (w_len_list (w_arg rfl))))
    rw [List.length_map] at h5
    refine Nat.le_of_not_lt fun q => ?_
    have q' : (n : Int) < ((ns.length : Nat) : Int) := by omega
    first
      | (rw [decide_eq_true q'] at h5; exact absurd h5 (by decide))
      | (simp at h5; omega)
  cases hwl with
  | cons w1 w2 =>
    cases w2
    cases w1 with
    | list ho hall => exact ⟨_, _, ns, rfl, rfl, ho, ints_of_wellAll ns _ hall, hlen⟩
theorem post_true (l : OpenLaw) (args : List WData) : l.row.toRowW.claim.post args (.bool true) args = true :=
  postW_of (r := l.row.toRowW) (X := (true == true))
    (show WShape.has [] (.bool true) .bool = true by first | rfl | decide | simp [WShape.has, WShape.arms, WShape.armsAll])
    (show (WTm.eq .res (.lit (.bool true))).value [] { args := args, res := some (.bool true), after := args } = some (.bool (true == true)) from w_eq_bool (w_res rfl) w_lit) rfl
theorem attach_call {l : OpenLaw} {n : Nat} {q : Program} {loose : List Str} {XP : (Str → Option Value) → Heap → Prop} {YP : World → Heap → Prop} {d : DefRec}
    (hn : l.most = some n) (hdf : d.params.defaults = [])
    (call : ∀ (w : World) (s₀ s₁ : Shared) (mg mb : Str → Option Value) (fa : Addr) (o : Obj) (pm cd doc : Value) (a : Addr) (vs : List Value) (ns : List Int),
      Ground q loose [] XP w s₀ mg mb s₁.heap → YP w s₁.heap →
      s₁.heap.get? fa = some o → o.data = .func (docDef d.name d.params d.body d.scope pm cd doc) → s₁.heap.CodeRec cd d.name → mg d.name = some (.ref fa) →
      s₁.heap.get? a = some { cls := .type "list", data := .seq vs.toArray } → IntsAre vs ns → ns.length ≤ n → s₁.gens = #[] →
      codeAny (model l.prog w) callerA (.call (.ref fa) ⟨[.ref a], []⟩) (fun r s' => r = .ok (.ret (.bool true)) ∧ OldK s₁.heap s'.heap ∧ s'.os = s₁.os ∧ AllBare s'.gens) s₁) :
    WalkO q loose XP YP l.row.toRowW d [] (fun f vs => PySem.call f vs) := by
  intro w s₀ s₁ mg mb G Y fa o pm cd doc dV kV ho hd hcd hD hmg hg args vals as hpre hlay hrd hwl hlo
  obtain rfl : dV = .none := Dflts.none hD hdf
  obtain rfl : kV = .none := Dflts.noKw hD
  obtain ⟨a, vs, ns, rfl, rfl, hobj, hints, hlen⟩ := script_of hn hpre hwl
  refine enter_call (codeAny_mono (call w s₀ s₁ mg mb fa o pm cd doc a vs ns G Y ho (fd_plain hd) hcd hmg hobj hints hlen hg) fun r s' hq => ?_)
  obtain ⟨rfl, h2, h3, h4⟩ := hq
  exact ⟨.inl ⟨.bool true, .bool true, [], rfl, fun _ => rfl, .bool true, post_true l _, fun _ => ⟨List.Pairwise.nil, fun _ hm => (nomatch hm)⟩⟩, h2, h3, h4⟩
section
variable {prog : Program} {w : World} {A : Around} {E : Value → Shared → Prop} {s : Shared} {K : Frag}
end
end Att
namespace L2
open PySem PySem.Spec PyProof.Rows
theorem vals_ints : ∀ {vs : List Value} {ns : List Int}, IntsAre vs ns → Vals (ns.map V.int) vs
  | _, _, .nil => .nil
  | _, _, .cons n t h => .cons ⟨t, rfl⟩ (vals_ints h)
end L2
namespace L2
open PySem PySem.Spec PyProof.Rows
end L2
namespace L2
open PySem PySem.Spec PyProof.Rows
def inClass (s : Stmt) (j : Nat) : Stmt := match s with
  | .ClassDef _ _ _ body _ _ _ _ _ _ _ => body.getD j (.Pass ⟨0, 0, 0, 0⟩)
  | _ => .Pass ⟨0, 0, 0, 0⟩
def defArgs (s : Stmt) : Arguments := match s with
  | .FunctionDef _ a _ _ _ _ _ _ _ _ => a
  | _ => { posonlyargs := [], args := [], vararg := none, kwonlyargs := [], kw_defaults := [], kwarg := none, defaults := [] }
def defBody (s : Stmt) : List Stmt := match s with
  | .FunctionDef _ _ b _ _ _ _ _ _ _ => b
  | _ => []
def defScope (s : Stmt) : Scope := match s with
  | .FunctionDef _ _ _ _ _ _ sc _ _ _ => sc
  | _ => { kind := .function, names := [], isGenerator := false, isCoroutine := false }
abbrev CX0 : CXT := fun _ _ _ _ _ _ => False
abbrev E0 : XK := fun _ _ _ => False
theorem pass0 {X : Cx} : Passes CX0 X E0 := fun _ _ _ _ _ _ _ h => h.elim
structure Fun (K : PySem.W.Frag) (x qual : Str) (st : Stmt) (f : Addr) (fd : FuncData) : Prop where
  ex : ∃ (oc : Value) (od : Option Addr) (kV doc pm : Value) (an : Option Addr) (cdv ct : Value) (osl : Array (Option Value)),
    fd = PySem.W.fnOf x qual (defArgs st) (defBody st) (defScope st) .none kV doc pm an cdv ct ∧ K.lookup f = some ⟨oc, od, .func fd, osl⟩ ∧ PySem.W.codeIn K cdv qual = true
  kp : PySem.W.keepIn K (.ref f) = true
section
variable {P : Program} {w : World} {K : PySem.W.Frag} {mg : Str → Option Value} {base : Heap}
theorem Fun.ok {x qual : Str} {st : Stmt} {f : Addr} {fd : FuncData} {N ps : List Str} {k : Nat} {sp : Sp} (F : Fun K x qual st f fd) (S : FnScope N ps (defScope st)) (len : ∀ vs H Q E, sp vs H Q E → vs.length = ps.length)
    (hbody : ∀ (cdv : Value) (A : Around) (outer : List Env) (s : Shared) (H : Hp) (vs : List V) (Q : VK) (E : XK), Room k (A.deeper (envOfC qual (defScope st) s.heap.objs.size f cdv)) → sp vs H Q E →
      ∃ t, PSs (cxOf CX0 P w K mg base N qual (defScope st) f cdv A outer s H E).nox (defBody st) t ∧ t { nx := fun _ H' => Q .non H', rt := Q } (start N vs) H) : FnOk P w K mg base CX0 (k + 1) f fd ps sp := by
  obtain ⟨oc, od, kV, doc, pm, an, cdv, ct, osl, rfl, lk, hcd⟩ := F.ex
  refine fn_of lk hcd S len fun A outer s H vs Q E hr hsp => ?_
  obtain ⟨t, h, q⟩ := hbody cdv A outer s H vs Q E hr hsp
  exact ⟨t, h.nox, q⟩
theorem Fun.binds {x qual : Str} {st : Stmt} {f : Addr} {fd : FuncData} {ps : List Str} (F : Fun K x qual st f fd)
    (h : ∀ (kV doc pm : Value) (an : Option Addr) (cdv ct : Value) (us : List Value), us.length = ps.length → bindArgs (PySem.W.fnOf x qual (defArgs st) (defBody st) (defScope st) .none kV doc pm an cdv ct) ⟨us, []⟩ = pure (ps.zip us)) : Binds K fd ps [] := by
  obtain ⟨oc, od, kV, doc, pm, an, cdv, ct, osl, rfl, lk, hcd⟩ := F.ex
  exact .all (h kV doc pm an cdv ct)
theorem fun_mk {x qual : Str} {st : Stmt} {f : Addr} {oc : Value} {od an : Option Addr} {osl : Array (Option Value)} {kV doc pm cdv ct : Value} (l : K.lookup f = some ⟨oc, od, .func (PySem.W.fnOf x qual (defArgs st) (defBody st) (defScope st) .none kV doc pm an cdv ct), osl⟩)
    (c : PySem.W.codeIn K cdv qual = true) (k : PySem.W.keepIn K (.ref f) = true) : Fun K x qual st f (PySem.W.fnOf x qual (defArgs st) (defBody st) (defScope st) .none kV doc pm an cdv ct) := ⟨⟨oc, od, kV, doc, pm, an, cdv, ct, osl, rfl, l, c⟩, k⟩
end
section
variable {X : Cx}
theorem pv (i : Nat) {x : Str} {pos : Pos} (hN : X.N[i]? = some x := by rfl) (hv : Vis X.env.scope x := by first | exact Or.inl rfl | exact Or.inr (Or.inl rfl) | exact Or.inr (Or.inr rfl)) (hd : (x == ("__debug__" : Str)) = false := by decide)
    (hcd : (x == ("__classdict__" : Str)) = false := by decide) : PE X (.Name x pos) (tVar i) := pe_var hN hv hd hcd
end
theorem iteF {A B : Prop} (h : B) : if false = true then A else B := by
  rw [if_neg Bool.false_ne_true]
  exact h
theorem iteT {A B : Prop} (h : A) : if true = true then A else B := by
  rw [if_pos rfl]
  exact h
theorem ite2 {c A B : Prop} [Decidable c] (h1 : c → A) (h2 : ¬ c → B) : if c then A else B := by
  by_cases h : c
  · rw [if_pos h]
    exact h1 h
  · rw [if_neg h]
    exact h2 h
def Same (H H' : Hp) : Prop := ∀ b o, H b = some o → H' b = some o
theorem Same.refl (H : Hp) : Same H H := fun _ _ h => h
theorem Same.trans {H H1 H2 : Hp} (a : Same H H1) (b : Same H1 H2) : Same H H2 := fun c o h => b c o (a c o h)
theorem Same.free {H H' : Hp} (e : Same H H') {l : Addr} (h : H' l = Option.none) : H l = Option.none := by
  cases q : H l with
  | none => rfl
  | some o =>
    rw [e l o q] at h
    cases h
end L2
namespace L2
open PySem PySem.Spec PyProof.Rows
def cSt (src : List (Option Nat)) (σ : St) : St := src.map fun o => match o with | some j => σ.getD j none | none => none
theorem cSt_get {src : List (Option Nat)} {σ : St} {i : Nat} {v : V} (h : (cSt src σ)[i]? = some (some v)) : ∃ j, src[i]? = some (some j) ∧ σ[j]? = some (some v) := by
  unfold cSt at h
  rw [List.getElem?_map] at h
  cases e : src[i]? with
  | none => rw [e] at h; cases h
  | some o =>
    rw [e] at h
    cases o with
    | none => cases h
    | some j =>
      refine ⟨j, rfl, ?_⟩
      have h' : σ.getD j none = some v := Option.some.inj h
      rw [List.getD_eq_getElem?_getD] at h'
      cases e2 : σ[j]? with
      | none => rw [e2] at h'; cases h'
      | some o => rw [e2] at h'; rw [show o = some v from h']
structure BlkScope (NB : List Str) (src : List (Option Nat)) (scope : Scope) (X : Cx) : Prop where
  kind : scope.kind = .function
  nd : NB.Nodup
  len : src.length = NB.length
  cells : ∀ y ∈ scope.names, y.2 = .cell → scope.names.lookup y.1 = some .cell
  names : ∀ y ∈ scope.names, y.2 = .local → scope.names.lookup y.1 = some .local
  free : ∀ y ∈ scope.names, y.2 = .free → X.env.scope.names.lookup y.1 = some .cell ∨ X.env.scope.names.lookup y.1 = some .free
  src : ∀ (i : Nat) (x : Str) (j : Nat), NB[i]? = some x → src[i]? = some (some j) → X.N[j]? = some x ∧ scope.names.lookup x = some .free
def ownCell (scope : Scope) (x : Str) : Bool := match scope.names.lookup x with
  | some .cell => true
  | _ => false
theorem ownCell_iff {scope : Scope} {x : Str} : ownCell scope x = true ↔ scope.names.lookup x = some .cell := by
  unfold ownCell
  split
  · rename_i h; exact ⟨fun _ => h, fun _ => rfl⟩
  · rename_i h; exact ⟨fun z => (by cases z), fun z => absurd z h⟩
def blk (X : Cx) (NB : List Str) (scope : Scope) (cl : List (Str × Addr)) (C : Addr) (s₃ : Shared) (H₃ : Hp) (fp : List Addr) : Cx :=
  { X with N := NB, s₀ := s₃, H₀ := H₃, env := compEnvC scope cl C X.env, outer := X.stack, stack := X.stack, ex := fp, fn := ownCell scope, pn := [], xe := fun _ _ => False }
theorem closure_go {env : Env} : ∀ (names : List (Str × NameKind)) (acc : List (Str × Addr)), (∀ y ∈ names, y.2 = NameKind.free → ∃ c, env.cells.lookup y.1 = some c) → (∀ x c, acc.lookup x = some c → env.cells.lookup x = some c) →
    ∃ cl, (forIn names acc fun x r => (if (x.2 == NameKind.free) = true then (do let a ← cellOf env x.1; pure (ForInStep.yield ((x.1, a) :: r))) else pure (ForInStep.yield r) : Sem (ForInStep (List (Str × Addr))))) = (pure cl : Sem (List (Str × Addr))) ∧
      (∀ x c, cl.lookup x = some c → env.cells.lookup x = some c) ∧ (∀ x c, acc.lookup x = some c → ∃ c', cl.lookup x = some c') ∧ ∀ x, (x, NameKind.free) ∈ names → ∃ c, cl.lookup x = some c
  | [], acc, _, ha => ⟨acc, by rw [List.forIn_nil], ha, fun x c h => ⟨c, h⟩, fun x h => nomatch h⟩
  | (n, k) :: r, acc, hf, ha => by
    by_cases hk : k = NameKind.free
    · subst hk
      obtain ⟨c, hc⟩ := hf (n, NameKind.free) List.mem_cons_self rfl
      have ha' : ∀ x c', ((n, c) :: acc).lookup x = some c' → env.cells.lookup x = some c' := fun x c' h => by
        rw [List.lookup_cons] at h
        cases hx : x == n with
        | true =>
          rw [hx] at h
          cases h
          have : x = n := by simpa using hx
          rw [this]; exact hc
        | false => rw [hx] at h; exact ha x c' h
      obtain ⟨cl, e1, e2, e3, e4⟩ := closure_go r ((n, c) :: acc) (fun y hy => hf y (List.mem_cons_of_mem _ hy)) ha'
      refine ⟨cl, ?_, e2, fun x c' h => ?_, fun x h => ?_⟩
      · rw [List.forIn_cons]
        have ec : cellOf env n = pure c := by unfold cellOf; rw [hc]
        have e0 : (if ((n, NameKind.free).2 == NameKind.free) = true then (do let a ← cellOf env (n, NameKind.free).1; pure (ForInStep.yield (((n, NameKind.free).1, a) :: acc))) else pure (ForInStep.yield acc) : Sem (ForInStep (List (Str × Addr)))) = pure (ForInStep.yield ((n, c) :: acc)) := by
          rw [if_pos (show (NameKind.free == NameKind.free) = true by decide)]
          show cellOf env n >>= _ = _
          rw [ec]; rfl
        rw [e0]
        exact e1
      · cases hx : x == n with
        | true => exact e3 x c (by rw [List.lookup_cons, hx])
        | false => exact e3 x c' (by rw [List.lookup_cons, hx]; exact h)
      · rcases List.mem_cons.mp h with h | h
        · cases h
          exact e3 n c (by rw [List.lookup_cons]; simp)
        · exact e4 x h
    · obtain ⟨cl, e1, e2, e3, e4⟩ := closure_go r acc (fun y hy => hf y (List.mem_cons_of_mem _ hy)) ha
      refine ⟨cl, ?_, e2, e3, fun x h => ?_⟩
      · rw [List.forIn_cons]
        have hb : (k == NameKind.free) = false := by simpa using hk
        have e0 : (if ((n, k).2 == NameKind.free) = true then (do let a ← cellOf env (n, k).1; pure (ForInStep.yield (((n, k).1, a) :: acc))) else pure (ForInStep.yield acc) : Sem (ForInStep (List (Str × Addr)))) = pure (ForInStep.yield acc) := by
          rw [if_neg (by show ¬ (k == NameKind.free) = true; rw [hb]; decide)]
        rw [e0]
        exact e1
      · rcases List.mem_cons.mp h with h | h
        · cases h; exact absurd rfl hk
        · exact e4 x h
theorem closure_ex {X : Cx} (ok : X.Ok) {NB : List Str} {src : List (Option Nat)} {scope : Scope} (S : BlkScope NB src scope X) :
    ∃ cl, closureFor scope X.env = pure cl ∧ (∀ x c, cl.lookup x = some c → X.env.cells.lookup x = some c) ∧ ∀ x, (x, NameKind.free) ∈ scope.names → ∃ c, cl.lookup x = some c := by
  obtain ⟨cl, e1, e2, _, e4⟩ := closure_go (env := X.env) scope.names [] (fun y hy hk => ok.has y.1 (S.free y hy hk)) (fun x c h => nomatch h)
  refine ⟨cl, ?_, e2, e4⟩
  unfold closureFor
  simp only [bind_pure]
  exact e1
theorem relabel_free {scope : Scope} {env : Env} {x : Str} (h : scope.names.lookup x = some .free) : (relabel scope env).names.lookup x = some .cell ∨ (relabel scope env).names.lookup x = some .free := by
  have go : ∀ names : List (Str × NameKind), names.lookup x = some .free →
      (names.map fun (n, k) => if (k == NameKind.free && env.scope.kind == .function && env.kindOf n == some .cell) then (n, NameKind.cell) else (n, k)).lookup x = some .cell ∨
      (names.map fun (n, k) => if (k == NameKind.free && env.scope.kind == .function && env.kindOf n == some .cell) then (n, NameKind.cell) else (n, k)).lookup x = some .free := by
    intro names
    induction names with
    | nil => intro h; simp at h
    | cons y r ih =>
      intro h
      obtain ⟨n, k⟩ := y
      rw [List.lookup_cons] at h
      rw [List.map_cons]
      cases hx : x == n with
      | true =>
        rw [hx] at h
        cases h
        by_cases hc : (NameKind.free == NameKind.free && env.scope.kind == .function && env.kindOf n == some .cell) = true
        · left; show List.lookup x ((if _ then _ else _) :: _) = _; rw [if_pos hc, List.lookup_cons, hx]
        · right; show List.lookup x ((if _ then _ else _) :: _) = _; rw [if_neg hc, List.lookup_cons, hx]
      | false =>
        rw [hx] at h
        by_cases hc : (k == NameKind.free && env.scope.kind == .function && env.kindOf n == some .cell) = true
        · show List.lookup x ((if _ then _ else _) :: _) = _ ∨ List.lookup x ((if _ then _ else _) :: _) = _
          rw [if_pos hc, List.lookup_cons, hx]; exact ih h
        · show List.lookup x ((if _ then _ else _) :: _) = _ ∨ List.lookup x ((if _ then _ else _) :: _) = _
          rw [if_neg hc, List.lookup_cons, hx]; exact ih h
  exact go scope.names h
theorem relabel_back {scope : Scope} {env : Env} {x : Str} {k : NameKind} (h : (relabel scope env).names.lookup x = some k) (hk : k = .cell ∨ k = .free) : (x, NameKind.free) ∈ scope.names ∨ (x, NameKind.cell) ∈ scope.names := by
  have m := PySem.mem_of_lookup h
  obtain ⟨⟨n, k'⟩, hm, e⟩ := List.mem_map.mp m
  by_cases q : (k' == NameKind.free && env.scope.kind == .function && env.kindOf n == some .cell) = true
  · have e' : (n, NameKind.cell) = (x, k) := by simpa [q] using e
    have k1 : k' = NameKind.free := by
      simp only [Bool.and_eq_true, beq_iff_eq] at q
      exact q.1.1
    cases e'
    left
    rw [← k1]; exact hm
  · have e' : (n, k') = (x, k) := by simpa [q] using e
    cases e'
    rcases hk with z | z
    · subst z; exact .inr hm
    · subst z; exact .inl hm
theorem cells_new : ∀ (names : List (Str × NameKind)) (h : Heap) (acc : List (Str × Addr)) (x : Str) (c : Addr), (cellsFrom h.objs.size names acc).lookup x = some c → acc.lookup x = some c ∨ (h.objs.size ≤ c ∧ (pushCells h names).IsCell c none)
  | [], _, _, _, _, e => .inl e
  | (name, kind) :: r, h, acc, x, c, e => by
    unfold cellsFrom at e
    unfold pushCells
    split at e
    · rename_i hk
      rw [if_pos hk]
      have hsz : (h.push { cls := .type "cell", data := .cell none }).objs.size = h.objs.size + 1 := Heap.size_push ..
      rw [← hsz] at e
      rcases cells_new r _ _ x c e with z | ⟨z1, z2⟩
      · rw [List.lookup_cons] at z
        cases hx : x == name with
        | true =>
          rw [hx] at z
          cases z
          exact .inr ⟨Nat.le_refl _, _, pushCells_keeps r _ _ _ (Heap.get?_push_size _ rfl), rfl⟩
        | false => rw [hx] at z; exact .inl z
      · exact .inr ⟨by omega, z2⟩
    · rename_i hk
      rw [if_neg hk]
      exact cells_new r h acc x c e
theorem cells_own : ∀ (names : List (Str × NameKind)) (n : Nat) (acc : List (Str × Addr)) (x : Str), (x, NameKind.cell) ∈ names → ∃ c, n ≤ c ∧ (cellsFrom n names acc).lookup x = some c := by
  have up : ∀ (names : List (Str × NameKind)) (n m : Nat) (acc : List (Str × Addr)) (x : Str) (c : Addr), acc.lookup x = some c → m ≤ c → m ≤ n → ∃ c', m ≤ c' ∧ (cellsFrom n names acc).lookup x = some c' := by
    intro names
    induction names with
    | nil => intro n m acc x c e h _; exact ⟨c, h, e⟩
    | cons y r ih =>
      intro n m acc x c e h hm
      obtain ⟨name, kind⟩ := y
      unfold cellsFrom
      split
      · cases hx : x == name with
        | true => exact ih (n + 1) m _ x n (by rw [List.lookup_cons, hx]) hm (by omega)
        | false => exact ih (n + 1) m _ x c (by rw [List.lookup_cons, hx]; exact e) h (by omega)
      · exact ih n m acc x c e h hm
  intro names
  induction names with
  | nil => intro n acc x h; cases h
  | cons y r ih =>
    intro n acc x h
    obtain ⟨name, kind⟩ := y
    unfold cellsFrom
    rcases List.mem_cons.mp h with z | z
    · cases z
      rw [if_pos (by decide)]
      exact up r (n + 1) n _ x n (by rw [List.lookup_cons]; simp) (Nat.le_refl _) (by omega)
    · split
      · obtain ⟨c, h1, h2⟩ := ih (n + 1) ((name, n) :: acc) x z
        exact ⟨c, by omega, h2⟩
      · exact ih n acc x z
theorem cells_old : ∀ (names : List (Str × NameKind)) (n : Nat) (acc : List (Str × Addr)) (x : Str) (c : Addr), acc.lookup x = some c → (x, NameKind.cell) ∉ names → (cellsFrom n names acc).lookup x = some c
  | [], _, _, _, _, e, _ => e
  | (name, kind) :: r, n, acc, x, c, e, h => by
    have hr : (x, NameKind.cell) ∉ r := fun z => h (List.mem_cons_of_mem _ z)
    unfold cellsFrom
    split
    · rename_i hk
      have hne : (x == name) = false := by
        cases hx : x == name with
        | false => rfl
        | true =>
          have e1 : x = name := by simpa using hx
          have e2 : kind = .cell := by simpa using hk
          exact absurd (by rw [e1, e2]; exact List.mem_cons_self) h
      exact cells_old r (n + 1) _ x c (by rw [List.lookup_cons, hne]; exact e) hr
    · exact cells_old r n acc x c e hr
theorem cells_inj : ∀ (names : List (Str × NameKind)) (n : Nat) (acc : List (Str × Addr)), (∀ x y c, acc.lookup x = some c → acc.lookup y = some c → x = y) → (∀ x c, acc.lookup x = some c → c < n) → ∀ x y c, (cellsFrom n names acc).lookup x = some c → (cellsFrom n names acc).lookup y = some c → x = y
  | [], _, _, hi, _ => hi
  | (name, kind) :: r, n, acc, hi, hl => by
    unfold cellsFrom
    split
    · refine cells_inj r (n + 1) _ (fun x y c h1 h2 => ?_) (fun x c h => ?_)
      · rw [List.lookup_cons] at h1 h2
        cases hx : x == name <;> cases hy : y == name <;> rw [hx] at h1 <;> rw [hy] at h2
        · exact hi x y c h1 h2
        · cases h2; exact absurd (hl x _ h1) (Nat.lt_irrefl _)
        · cases h1; exact absurd (hl y _ h2) (Nat.lt_irrefl _)
        · have e1 : x = name := by simpa using hx
          have e2 : y = name := by simpa using hy
          rw [e1, e2]
      · rw [List.lookup_cons] at h
        cases hx : x == name <;> rw [hx] at h
        · exact Nat.lt_succ_of_lt (hl x c h)
        · cases h; exact Nat.lt_succ_self _
    · exact cells_inj r n acc hi hl
section
variable {X : Cx} {pins : List (Addr × Obj)} {σ : St} {H : Hp} {s : Shared} {NB : List Str} {src : List (Option Nat)} {scope : Scope} {cl : List (Str × Addr)} {fp : List Addr} {h₁ : Heap} {t₁ : Nat}
theorem inv_blk (I : Inv X pins σ H s) (S : BlkScope NB src scope X) (c1 : ∀ x c, cl.lookup x = some c → X.env.cells.lookup x = some c) (c2 : ∀ x, (x, NameKind.free) ∈ scope.names → ∃ c, cl.lookup x = some c)
    (hf : ∀ b ∈ fp, FpOk X pins H b) (hfo : ∀ b ∈ fp, b < s.heap.objs.size) {m : Str → Option Value} (hn : h₁.Ns s.heap.objs.size m) (hk : ∀ b o, s.heap.get? b = some o → h₁.get? b = some o)
    (hnew : ∀ x c, (cellsFrom (s.heap.objs.size + 1) scope.names cl).lookup x = some c → cl.lookup x = some c ∨ (s.heap.objs.size < c ∧ h₁.IsCell c none)) :
    Inv (blk X NB scope (cellsFrom (s.heap.objs.size + 1) scope.names cl) s.heap.objs.size s H fp) [] (cSt src σ) H { s with heap := h₁, toks := t₁ } := by
  have stk : ∀ b ∈ frs X.stack, b ∈ X.env.locals :: X.fs := I.stkSub
  have cellOk : ∀ x c, cl.lookup x = some c → ∃ v, s.heap.IsCell c v := fun x c e => I.cell x c (c1 x c e)
  have clLt : ∀ x c, cl.lookup x = some c → c < s.heap.objs.size := fun x c e => by obtain ⟨v, o, ho, _⟩ := cellOk x c e; exact Heap.lt_size ho
  refine ⟨⟨I.ok.mod, S.kind, I.ok.glob, I.ok.blt, Nat.le_refl _, cells_inj _ _ _ (fun x y c e1 e2 => I.ok.inj x y c (c1 x c e1) (c1 y c e2)) (fun x c e => Nat.lt_succ_of_lt (clLt x c e)), fun x hx => ?_, fun x c z e => ?_, I.ok.hd, I.ok.frames, .inl rfl, fun b hb => ⟨?_, fun x c e => ?_⟩, I.bs, Nat.le_trans I.ok.bsz I.sz, fun b o e hb => ?_, fun b hb => ?_, I.stack, I.stkFree⟩,
    rfl, I.bare, Un.kept hk, ⟨m, hn, fun i x v e1 e2 e3 => ?_⟩, fun x c e => ?_, I.hok.fresh (Nat.le_refl _), fun x c e => ?_, fun p hp => absurd (show p ∈ ([] : List (Addr × Obj)) from hp) (by simp), I.hok.kept hk, ?_⟩
  · have both : (x, NameKind.free) ∈ scope.names ∨ (x, NameKind.cell) ∈ scope.names := by
      rcases hx with hx | hx
      · exact relabel_back hx (.inl rfl)
      · exact relabel_back hx (.inr rfl)
    by_cases hc : (x, NameKind.cell) ∈ scope.names
    · obtain ⟨c, _, e⟩ := cells_own scope.names (s.heap.objs.size + 1) cl x hc
      exact ⟨c, e⟩
    · rcases both with z | z
      · obtain ⟨c, e⟩ := c2 x z
        exact ⟨c, cells_old _ _ _ _ _ e hc⟩
      · exact absurd z hc
  · have hm := PySem.mem_of_lookup (ownCell_iff.mp z)
    obtain ⟨c', h1, h2⟩ := cells_own scope.names (s.heap.objs.size + 1) cl x hm
    have e' : (cellsFrom (s.heap.objs.size + 1) scope.names cl).lookup x = some c := e
    rw [h2] at e'
    cases e'
    exact Nat.le_of_succ_le h1
  · exact Nat.ne_of_lt (hfo b hb)
  · rcases hnew x c e with z | ⟨z, _⟩
    · exact (hf b hb).2.2.2.2.1 x c (c1 x c z)
    · exact Nat.ne_of_gt (Nat.lt_trans (hfo b hb) z)
  · rcases (hf b hb).2.2.2.1 with z | z
    · exact I.ok.noex b o e z
    · exact absurd (Nat.lt_of_lt_of_le (Heap.lt_size e) (Nat.le_trans I.ok.bsz z)) (Nat.lt_irrefl _)
  · intro z
    rcases List.mem_cons.mp (stk b z) with e | e
    · exact (hf b hb).2.1 e
    · exact (hf b hb).2.2.1 e
  · obtain ⟨j, hj, hv⟩ := cSt_get e2
    obtain ⟨hN, hF⟩ := S.src i x j e1 hj
    obtain ⟨m0, hn0, hl0⟩ := I.loc
    have hmem := PySem.mem_of_lookup hF
    have kx := S.free _ hmem rfl
    have vis : Vis X.env.scope x := by
      rcases kx with z | z
      · exact .inr (.inl z)
      · exact .inr (.inr z)
    obtain ⟨u, r, l⟩ := hl0 j x v hN hv vis
    refine ⟨u, r, .inr ⟨relabel_free hF, ?_⟩⟩
    obtain ⟨c, hc⟩ := c2 x hmem
    have hnc : (x, NameKind.cell) ∉ scope.names := fun z => by
      have := S.cells _ z rfl
      rw [hF] at this; cases this
    refine ⟨c, cells_old _ _ _ _ _ hc hnc, ?_⟩
    rcases l with ⟨hk', _⟩ | ⟨_, c', e, z⟩
    · have hk'' : X.env.scope.names.lookup x = some .local := hk'
      rcases kx with z | z <;> (rw [z] at hk''; cases hk'')
    · rw [c1 x c hc] at e
      cases e
      obtain ⟨o, ho, hd⟩ := z
      exact ⟨o, hk _ _ ho, hd⟩
  · rcases hnew x c e with z | ⟨_, z⟩
    · obtain ⟨v, o, ho, hd⟩ := cellOk x c z
      exact ⟨v, o, hk _ _ ho, hd⟩
    · exact ⟨none, z⟩
  · rcases hnew x c e with z | ⟨z, _⟩
    · exact I.freeC x c (c1 x c z)
    · exact I.hok.fresh (Nat.le_of_lt z)
  · show (cSt src σ).length = NB.length
    unfold cSt
    rw [List.length_map]
    exact S.len
theorem Inv.unblk {C : Addr} {σB : St} {H' : Hp} {s' : Shared} (I : Inv X pins σ H s) (J : Inv (blk X NB scope cl C s H fp) [] σB H' s') (hf : ∀ b ∈ fp, FpOk X pins H b) : Inv X pins σ H' s' := by
  refine I.call' (ch := fp) J.os J.base J.hok J.bare fun b hb => ?_
  obtain ⟨_, f1, _, f3, f4, f5⟩ := hf b hb
  exact ⟨f3, f1, f4, f5⟩
end
def PTs (X : Cx) (ifs : List Expr) (t : TT) : Prop :=
  ∀ (pins : List (Addr × Obj)) (s : Shared) (σ : St) (H : Hp) (Q : Bool → Hp → Prop), Inv X pins σ H s → t σ H Q →
    wpAny (model X.prog X.w) X.A (forIn ifs true fun c r => if r = true then do let ok ← isTrue c X.env (eval c X.env); pure (ForInStep.yield ok) else pure (ForInStep.yield r)) (TP X pins σ Q) X.xe s
def tYes : TT := fun _ H Q => Q true H
theorem pts_nil {X : Cx} : PTs X [] tYes := fun _ _ _ H _ I h => wpAny_tests_nil ⟨H, I, h⟩
theorem pts_one {X : Cx} {c : Expr} {t : TT} (h : PT X c t) : PTs X [c] t := fun pins s σ H Q I q => wpAny_tests_one (h pins s σ H Q I q)
def CompW (J : It) (g : TG) (tt : TT) (te : TE) (D : Addr) (fin : Hp → Prop) (σB : St) (H1 : Hp) : Prop :=
  ∃ W : Nat → Nat → St → Hp → Prop, (∃ m, W 0 m σB H1) ∧ ∀ i m σ H, W i m σ H → (J.stop i H ∧ fin H) ∨ (J.go i H ∧ ∀ x H', J.yld i H x H' → g x σ H' fun σ2 H2 => tt σ2 H2 fun b H3 =>
    if b = true then te σ2 H3 fun v H4 => ∃ ys, H4 D = some (.lst ys) ∧ ys.length < sizeLine ∧ ∃ m', m' < m ∧ W (i + 1) m' σ2 (upd H4 D (.lst (ys ++ [v]))) else ∃ m', m' < m ∧ W (i + 1) m' σ2 H3)
theorem comp_loop {B : Cx} {elt tg iter : Expr} {ifs : List Expr} {scope : Scope} {pos : Pos} {J : It} {g : TG} {tt : TT} {te : TE} {D it : Addr} {fp : List Addr} {tn : Nat → Heap → Prop} {fin : Hp → Prop} {R : Result → Shared → Prop} {s : Shared} {σB : St} {H1 : Hp}
    (hx : B.xe = fun _ _ => False) (hc : B.calm = true) (T : Turn B.prog B.w B.K tg J fp it tn) (hg : PG B tg g) (ht : PTs B ifs tt) (he : PE B elt te) (I : Inv B [] σB H1 s) (st : tn 0 s.heap) (hf : ∀ b ∈ fp, FpOk B [] H1 b)
    (hw : CompW J g tt te D fin σB H1) (hR : ∀ σ' H' s', Inv B [] σ' H' s' → fin H' → R (.ok .next) s') :
    codeAny (model B.prog B.w) B.A (.compLoop (.ListComp elt [⟨tg, iter, ifs, 0⟩] scope pos) 0 (.ref it) (.ref D) B.env) R s := by
  obtain ⟨W, ⟨m0, w0⟩, turn⟩ := hw
  have stat : ∀ {H' : Hp}, (∀ b ∈ fp, H' b = none) → ∀ b ∈ fp, FpOk B [] H' b := fun hn b hb => ⟨hn b hb, (hf b hb).2⟩
  refine codeAny_loop rfl (fun n s' => ∃ i σ' H', Inv B [] σ' H' s' ∧ tn i s'.heap ∧ (∀ b ∈ fp, H' b = none) ∧ W i n σ' H') ?_ m0 ⟨0, σB, H1, I, st, fun b hb => (hf b hb).1, w0⟩
  rintro n s3 ⟨i, σ3, H3, I3, st3, fr3, w3⟩
  show wpAny _ B.A ((compTurn (.ListComp elt [⟨tg, iter, ifs, 0⟩] scope pos) 0 (.ref it) (.ref D) B.env).onRaise (fun x => do noteFrame x B.env; theTreesLotGoes x)) _ _ s3
  refine wpAny_noted ?_
  rw [compTurn_list]
  have nx : ∀ {α : Type} {t : Sem α} {Q : α → Shared → Prop} {E' : Value → Shared → Prop} {s : Shared}, wpAny (model B.prog B.w) B.A t Q B.xe s → wpAny (model B.prog B.w) B.A t Q E' s := fun h =>
    wpAny_mono h (fun _ _ q => q) fun _ _ z => by rw [hx] at z; exact z.elim
  rcases turn i n σ3 H3 w3 with ⟨stop, qn⟩ | ⟨go, step⟩
  · refine wpAny_bind (wpAny_standAt (wpAny_bind (thn (T.done B rfl rfl rfl hc i [] s3 σ3 H3 _ I3 (stat fr3) st3 stop) fun r s4 ⟨hr, I4⟩ => ?_)))
    subst hr
    exact wpAny_pure (hR σ3 H3 s4 I4 qn)
  · refine wpAny_bind (wpAny_standAt (wpAny_bind (thn (T.item B rfl rfl rfl hc i [] s3 σ3 H3 _ I3 (stat fr3) st3 go) fun r s4 ⟨u, hr, h4⟩ => ?_)))
    subst hr
    refine wpAny_bind (thn h4 fun _ s5 ⟨x, H5, I5, r5, y5, st5, fr5⟩ => ?_)
    have I5' := I5.pinned (stat fr5) (T.obj _ _ st5)
    refine wpAny_bind (nx (thn (hg _ s5 σ3 H5 x u _ I5' r5 (step x H5 y5)) fun _ s6 ⟨σ6, H6, I6, q6⟩ => ?_))
    have back : ∀ {σ7 : St} {H7 : Hp} {s7 : Shared} {m' : Nat}, Inv B ([] ++ pinsAt fp s5.heap) σ7 H7 s7 → m' < n → W (i + 1) m' σ7 H7 → ∃ m, m < n ∧ ∃ i σ' H', Inv B [] σ' H' s7 ∧ tn i s7.heap ∧ (∀ b ∈ fp, H' b = none) ∧ W i m σ' H' := fun {σ7 H7 s7 m'} I7 hm w7 => by
      refine ⟨m', hm, i + 1, σ7, H7, I7.unpinned, T.keep _ _ _ st5 fun b hb o e => (I7.pin (b, o) (List.mem_append_right _ (List.mem_append_right _ (mem_pinsAt hb e)))).1, fun b hb => ?_, w7⟩
      obtain ⟨o, e, d⟩ := T.obj _ _ st5 b hb
      exact (I7.pin (b, o) (List.mem_append_right _ (List.mem_append_right _ (mem_pinsAt hb e)))).2.1
    refine wpAny_bind (nx (thn (ht _ s6 σ6 H6 _ I6 q6) fun ok s7 ⟨H7, I7, q7⟩ => ?_))
    cases ok with
    | false =>
      rw [if_neg Bool.false_ne_true] at q7
      obtain ⟨m', hm, w7⟩ := q7
      exact wpAny_pure ⟨rfl, back I7 hm w7⟩
    | true =>
      rw [if_pos rfl] at q7
      refine wpAny_bind (wpAny_bind (nx (thn (he _ s7 σ6 H7 _ I7 q7) fun v s8 ⟨y, H8, I8, r8, ys, hD, hl, m', hm, w8⟩ => ?_)))
      refine wpAny_bind (nx (thn (mt_append _ s8 σ6 H8 (.ref D) [y] (.ref D) [v] (fun _ H9 => H9 = upd H8 D (.lst (ys ++ [y]))) I8 rfl (.cons r8 .nil) ⟨D, ys, y, rfl, rfl, hD, hl, rfl⟩) fun _ s9 ⟨_, H9, I9, _, e9⟩ => ?_))
      subst e9
      exact wpAny_pure (wpAny_pure ⟨rfl, back I9 hm w8⟩)
end L2
namespace L2
open PySem PySem.Spec PyProof.Rows
theorem newEnv_cells {M : Model} {A : Around} {E : Value → Shared → Prop} {s : Shared} {scope : Scope} {globals : Addr} {cl : List (Str × Addr)} {qual : Str} {outer : Env} {Q : Env → Shared → Prop}
    (hQ : Q { scope := scope, locals := s.heap.objs.size, globals := globals, cells := cellsFrom (s.heap.objs.size + 1) scope.names cl, qual := qual, func := none, code := outer.code, frame := outer.frame, builtins := outer.builtins }
      { s with heap := pushCells (s.heap.push { cls := .type "dict", data := .dict #[] }) scope.names }) :
    wpAny M A (newFunctionEnv scope globals cl [] qual none .none (some outer)) Q E s := by
  simp only [newFunctionEnv, Option.isSome_some, if_true]
  refine wpAny_bind (wpAny_alloc ?_)
  refine wpAny_bind (wpAny_layCells _ (fun name kind cells => by cases hkc : kind == NameKind.cell <;> simp [hkc]) _ _ _ _ ?_)
  rw [show ({ s with heap := s.heap.push { cls := .type "dict", data := .dict #[] } } : Shared).heap.objs.size = s.heap.objs.size + 1 from Heap.size_push ..]
  refine wpAny_bind ?_
  rw [List.forIn_nil]
  exact wpAny_pure (wpAny_pure hQ)
section
variable {X : Cx} {elt tg iter : Expr} {ifs : List Expr} {scope : Scope} {pos : Pos} {wi : TI} {g : TG} {tt : TT} {te : TE} {NB : List Str} {src : List (Option Nat)}
def tComp (src : List (Option Nat)) (wi : TI) (g : TG) (tt : TT) (te : TE) : TE := fun σ H Q => wi σ H fun J H1 => ∀ D, H1 D = none → CompW J g tt te D (fun H' => Q (.ref D) H') (cSt src σ) (upd H1 D (.lst []))
theorem comp_block {pins : List (Addr × Obj)} {σ : St} {H2 : Hp} {s2 : Shared} {J : It} {fp : List Addr} {it : Addr} {tn : Nat → Heap → Prop} {cl : List (Str × Addr)} {fin : Addr → Hp → Prop} {E' : Value → Shared → Prop} {RR : Value → Addr → Result → Shared → Prop}
    (S : BlkScope NB src scope X) (hc : X.calm = true) (c1 : ∀ x c, cl.lookup x = some c → X.env.cells.lookup x = some c) (c2 : ∀ x, (x, NameKind.free) ∈ scope.names → ∃ c, cl.lookup x = some c)
    (hg : ∀ cl C s₃ H₃ fp, PG (blk X NB scope cl C s₃ H₃ fp) tg g) (ht : ∀ cl C s₃ H₃ fp, PTs (blk X NB scope cl C s₃ H₃ fp) ifs tt) (he : ∀ cl C s₃ H₃ fp, PE (blk X NB scope cl C s₃ H₃ fp) elt te)
    (I2 : Inv X pins σ H2 s2) (T : Turn X.prog X.w X.K tg J fp it tn) (st2 : tn 0 s2.heap) (f2 : ∀ b ∈ fp, FpOk X pins H2 b)
    (hw : ∀ D, H2 D = none → CompW J g tt te D (fin D) (cSt src σ) (upd H2 D (.lst [])))
    (hR : ∀ D C H' s', FpOk X pins H' C → Inv X pins σ H' s' → (∃ m, s'.heap.Ns C m) → fin D H' → RR (.ref D) C (.ok .next) s') :
    wpAny (model X.prog X.w) X.A (newList []) (fun acc s₃ => wpAny (model X.prog X.w) X.A (newFunctionEnv scope X.env.globals cl [] X.env.qual none .none (some X.env)) (fun cenv s₄ =>
      codeAny (model X.prog X.w) X.A (.compStart (.ListComp elt [⟨tg, iter, ifs, 0⟩] scope pos) 0 (.ref it) acc { cenv with scope := relabel scope X.env }) (RR acc cenv.locals) s₄) E' s₃) E' s2 := by
  refine wpAny_newObj_type (newEnv_cells ?_)
  have I3 := I2.lnew (ys := []) (its := []) (t' := s2.toks) .nil (Nat.zero_le _)
  have hD : H2 s2.heap.objs.size = none := I2.fresh
  have fo : ∀ b ∈ fp, b < s2.heap.objs.size := fun b hb => by obtain ⟨o, e, _⟩ := T.obj _ _ st2 b hb; exact Heap.lt_size e
  have up : ∀ {b : Addr}, b ∈ fp → upd H2 s2.heap.objs.size (.lst []) b = H2 b := fun {b} hb => upd_ne (Nat.ne_of_lt (fo b hb))
  have f3 : ∀ b ∈ fp, FpOk X pins (upd H2 s2.heap.objs.size (.lst [])) b := fun b hb => ⟨by rw [up hb]; exact (f2 b hb).1, (f2 b hb).2⟩
  have hsz : (s2.heap.push { cls := .type "list", data := .seq ([] : List Value).toArray }).objs.size = s2.heap.objs.size + 1 := by rw [Heap.size_push]
  generalize hs3 : ({ s2 with heap := s2.heap.push { cls := .type "list", data := .seq ([] : List Value).toArray } } : Shared) = s3 at I3 ⊢
  have hh3 : s3.heap = s2.heap.push { cls := .type "list", data := .seq ([] : List Value).toArray } := by rw [← hs3]
  have fo3 : ∀ b ∈ fp, b < s3.heap.objs.size := fun b hb => by rw [hh3, hsz]; exact Nat.lt_succ_of_lt (fo b hb)
  have hsz3 : (s3.heap.push { cls := .type "dict", data := .dict #[] }).objs.size = s3.heap.objs.size + 1 := Heap.size_push ..
  have hnew : ∀ x c, (cellsFrom (s3.heap.objs.size + 1) scope.names cl).lookup x = some c → cl.lookup x = some c ∨ (s3.heap.objs.size < c ∧ (pushCells (s3.heap.push { cls := .type "dict", data := .dict #[] }) scope.names).IsCell c none) := fun x c e => by
    rw [← hsz3] at e
    rcases cells_new _ _ _ _ _ e with z | ⟨z1, z2⟩
    · exact .inl z
    · exact .inr ⟨by rw [hsz3] at z1; exact z1, z2⟩
  have hns₁ := (Heap.Ns.new s3.heap (.type "dict")).keeps (pushCells_keeps scope.names _)
  have keep : ∀ b o, s3.heap.get? b = some o → (pushCells (s3.heap.push { cls := .type "dict", data := .dict #[] }) scope.names).get? b = some o := fun b o e => pushCells_keeps _ _ b o (Heap.get?_push_of_some _ e)
  generalize hh1 : pushCells (s3.heap.push { cls := .type "dict", data := .dict #[] }) scope.names = h₁ at hnew hns₁ keep ⊢
  have IB : Inv (blk X NB scope (cellsFrom (s3.heap.objs.size + 1) scope.names cl) s3.heap.objs.size s3 (upd H2 s2.heap.objs.size (.lst [])) fp) [] (cSt src σ) (upd H2 s2.heap.objs.size (.lst [])) { s3 with heap := h₁, toks := s3.toks } :=
    inv_blk I3 S c1 c2 f3 fo3 hns₁ keep hnew
  have stB : tn 0 h₁ := T.keep 0 s2.heap h₁ st2 fun b hb o e => keep b o (by rw [hh3]; exact Heap.get?_push_of_some _ e)
  have fB : ∀ b ∈ fp, FpOk (blk X NB scope (cellsFrom (s3.heap.objs.size + 1) scope.names cl) s3.heap.objs.size s3 (upd H2 s2.heap.objs.size (.lst [])) fp) [] (upd H2 s2.heap.objs.size (.lst [])) b := fun b hb => by
    refine ⟨(f3 b hb).1, Nat.ne_of_lt (fo3 b hb), fun z => ?_, .inl hb, fun x c e => (IB.ok.exf b hb).2 x c e, fun p hp => absurd (show p ∈ ([] : List (Addr × Obj)) from hp) (by simp)⟩
    rcases List.mem_cons.mp (I3.stkSub b z) with e | e
    · exact (f3 b hb).2.1 e
    · exact (f3 b hb).2.2.1 e
  have loop : codeAny (model X.prog X.w) X.A (.compLoop (.ListComp elt [⟨tg, iter, ifs, 0⟩] scope pos) 0 (.ref it) (.ref s2.heap.objs.size) (compEnvC scope (cellsFrom (s3.heap.objs.size + 1) scope.names cl) s3.heap.objs.size X.env)) (RR (.ref s2.heap.objs.size) s3.heap.objs.size)
      { s3 with heap := h₁, toks := s3.toks } := by
    refine comp_loop (B := blk X NB scope (cellsFrom (s3.heap.objs.size + 1) scope.names cl) s3.heap.objs.size s3 (upd H2 s2.heap.objs.size (.lst [])) fp) rfl hc T (hg _ _ _ _ _) (ht _ _ _ _ _) (he _ _ _ _ _) IB stB fB (hw _ hD) fun σ' H' s' J' q => ?_
    obtain ⟨m, hm, _⟩ := J'.loc
    exact hR _ _ H' s' (I3.fpOk (Nat.le_refl _) J'.free) (I3.unblk J' f3) ⟨m, hm⟩ q
  exact codeAny_compStart_list loop (T.self _ 0 _ _ _ stB loop)
theorem pe_comp (S : BlkScope NB src scope X) (hc : X.calm = true) (hi : PI X tg iter wi) (hg : ∀ cl C s₃ H₃ fp, PG (blk X NB scope cl C s₃ H₃ fp) tg g) (ht : ∀ cl C s₃ H₃ fp, PTs (blk X NB scope cl C s₃ H₃ fp) ifs tt)
    (he : ∀ cl C s₃ H₃ fp, PE (blk X NB scope cl C s₃ H₃ fp) elt te) (hs : ∀ x, foldedSetIterable iter X.env x = pure x := by intro _; rfl) : PE X (.ListComp elt [⟨tg, iter, ifs, 0⟩] scope pos) (tComp src wi g tt te) := by
  intro pins s σ H Q I h
  obtain ⟨cl, hcl, c1, c2⟩ := closure_ex I.ok S
  rw [eval_ListComp]
  refine wpAny_comprehension_free (use := none) (cl := cl) rfl hs hcl S.kind S.names (thn (hi pins s σ H _ I h) fun v s1 h1 => thn h1 fun itv s2 h2 => ?_)
  obtain ⟨it, fp, tn, J, H2, e, I2, T, st2, f2, hw⟩ := h2
  subst e
  refine comp_block (RR := fun acc C => compPost (model X.prog X.w) X.A X.xe none (EP X pins σ Q) acc C) S hc c1 c2 hg ht he I2 T st2 f2 hw fun D C H' s' fC I' hm q => ?_
  obtain ⟨m, hm⟩ := hm
  refine ⟨m, hm, fun h' sb => ⟨.ref D, H', ?_, rfl, q⟩⟩
  obtain ⟨g0, g1, _, g3, g4, g5⟩ := fC
  exact I'.turned (t' := s'.toks) (fun b o hb e => (sb.2 b hb).trans e) g0 g1 g3 g4 g5
theorem ps_setComp {i : Nat} {y : Str} {py spos : Pos} (S : BlkScope NB src scope X) (hc : X.calm = true) (hi : PI X tg iter wi) (hg : ∀ cl C s₃ H₃ fp, PG (blk X NB scope cl C s₃ H₃ fp) tg g) (ht : ∀ cl C s₃ H₃ fp, PTs (blk X NB scope cl C s₃ H₃ fp) ifs tt)
    (he : ∀ cl C s₃ H₃ fp, PE (blk X NB scope cl C s₃ H₃ fp) elt te) (hN : X.N.Nodup) (hix : X.N[i]? = some y) (hy : X.env.scope.names.lookup y = some .local)
    (hsw : swapsWith (.ListComp elt [⟨tg, iter, ifs, 0⟩] scope pos) (some (.Name y py)) spos.line X.env = pure true) (hs : ∀ x, foldedSetIterable iter X.env x = pure x := by intro _; rfl) :
    PS X (.Assign [.Name y py] (.ListComp elt [⟨tg, iter, ifs, 0⟩] scope pos) spos) (tAsg (tComp src wi g tt te) (gName i)) := by
  intro pins s σ H D0 I h
  obtain ⟨cl, hcl, c1, c2⟩ := closure_ex I.ok S
  rw [exec_Assign_Name_used _ _ _ _ hsw]
  refine wpAny_bind (wpAny_standAt (wpAny_bind ?_))
  show wpAny _ X.A (do let _ ← comprehension (.ListComp elt [⟨tg, iter, ifs, 0⟩] scope pos) scope X.env _ (newList []) false (eval iter X.env) (some (assign (.Name y py) X.env))) _ _ s
  refine wpAny_bind (wpAny_mono (wpAny_comprehension_free (use := some (assign (.Name y py) X.env)) (Q := fun _ s' => SP X pins D0 .next s') (cl := cl) rfl hs hcl S.kind S.names
    (thn (hi pins s σ H _ I h) fun v s1 h1 => thn h1 fun itv s2 h2 => ?_)) (fun _ s' hq => wpAny_pure (wpAny_pure hq)) fun _ _ e => e)
  obtain ⟨it, fp, tn, J, H2, e, I2, T, st2, f2, hw⟩ := h2
  subst e
  refine comp_block (RR := fun acc C => compPost (model X.prog X.w) X.A X.xe (some (assign (.Name y py) X.env)) (fun _ s' => SP X pins D0 .next s') acc C) S hc c1 c2 hg ht he I2 T st2 f2 hw fun D C H' s' fC I' hm q => ?_
  obtain ⟨m, hm⟩ := hm
  obtain ⟨g0, g1, _, g3, g4, g5⟩ := fC
  show wpAny _ X.A (assign (.Name y py) X.env (.ref D)) _ _ _
  refine wpAny_assign_Name (store_ok2 I' hN hix (.inl hy) (v := .ref D) rfl (fun s'' I'' sb => ?_) (.inr hy))
  obtain ⟨a, sb, ha⟩ := sb
  have hne : C ≠ a := by
    rcases ha with z | z
    · rw [z]; exact g1
    · exact fun z' => g4 y a z z'.symm
  refine ⟨m, hm.sameBut sb hne, fun h' sb' => ⟨_, H', I''.turned (t' := s''.toks) (fun b o hb e => (sb'.2 b hb).trans e) g0 g1 g3 g4 g5, q⟩⟩
end
end L2
namespace L2
open PySem PySem.Spec PyProof.Rows
structure FlyOk (P : Program) (w : World) (outer : List Env) (H : Hp) (s : Shared) (B : Heap) (p : Addr) (C a0 : Value) (H' : Hp) (s' : Shared) : Prop where
  os : s'.os = s.os
  bare : AllBare s'.gens
  hok : HOk P w H' B
  keep : ∀ b o, s.heap.get? b = some o → H b = none → b ∉ frs outer → B.get? b = some o ∧ H' b = none
  frame : ∀ b o, s.heap.get? b = some o → H b = none → b ∈ frs outer → (∃ sl, s'.heap.get? b = some { o with slots := sl }) ∧ H' b = none
  there : ∀ b o, s.heap.get? b = some o → H b ≠ none → ∃ o', B.get? b = some o'
  tups : ∀ b xs, H b = some (.tup xs) → H' b = some (.tup xs)
  frzs : ∀ b o u, H b = some (.frz o u) → H' b = some (.frz o u)
  tbls : ∀ b ps, H b = some (.tbl ps) → ∃ more, H' b = some (.tbl (ps ++ more))
  fl : Heap.FlyingW B outer p C a0 s'.heap
def CXf (P : Program) (w : World) : CXT := fun outer H s E e s' => ∃ p C a0 B H', e = .ref p ∧ FlyOk P w outer H s B p C a0 H' s' ∧ E C none H'
section
variable {P : Program} {w : World} {K : PySem.W.Frag} {mg : Str → Option Value} {base : Heap} {N : List Str} {qual : Str} {scope : Scope} {f : Addr} {cd : Value} {A : Around} {outer : List Env} {s : Shared} {H : Hp} {E : XK}
abbrev hid (h : Heap) (l : List Env) : Heap := PySem.W.hideAll h (frs l)
theorem hok_hid {l : List Env} {H1 : Hp} {h : Heap} (ok : HOk P w H1 h) (nf : ∀ b ∈ frs l, H1 b = none) : HOk P w H1 (hid h l) := fun a o e => by
  refine (ok a o e).stay (fun b u hb q => PySem.W.hideAll_get _ q fun z => ?_) (fun _ q => q) fun _ _ q => q
  have n := nf b z
  rcases hb with rfl | hb
  · rw [n] at e; cases e
  · rw [n] at hb; cases hb
theorem raise_xe {pins : List (Addr × Obj)} {σ : St} {H1 : Hp} {s1 : Shared} {h' : Heap} {e : Addr} {C : Value} {vs : List Value}
    (I : Inv (cxOf (CXf P w) P w K mg base N qual scope f cd A outer s H E) pins σ H1 s1) (hx : Heap.MadeExcOf s1.heap h' e C vs) (q : E C none H1) :
    (cxOf (CXf P w) P w K mg base N qual scope f cd A outer s H E).xe (.ref e) { s1 with heap := h' } := by
  have stk : frs (envOfC qual scope s.heap.objs.size f cd :: outer) = s.heap.objs.size :: frs outer := rfl
  have hfun := I.stack
  refine wpAny_leaves_madeW (base := hid s1.heap (envOfC qual scope s.heap.objs.size f cd :: outer)) (h := s1.heap) (L := s.heap.objs.size) I.ok.frames rfl (fun b o z => PySem.W.of_hideAll _ z)
    (PySem.W.funFrames_hide hfun fun env he b hb => List.mem_filterMap.mpr ⟨env, he, hb⟩) hx fun h2 t x1 x2 x3 x4 => ?_
  have inB : ∀ b o, s1.heap.get? b = some o → b ∉ frs outer → b < s.heap.objs.size → (hid s1.heap (envOfC qual scope s.heap.objs.size f cd :: outer)).get? b = some o := fun b o z hb hlt =>
    PySem.W.hideAll_get _ z fun m => by
      rw [stk] at m
      rcases List.mem_cons.mp m with z' | z'
      · exact absurd hlt (by rw [z']; exact Nat.lt_irrefl _)
      · exact hb z'
  refine ⟨e, C, .ref t, _, H1, rfl, ⟨I.os, I.bare, hok_hid I.hok I.stkFree, fun b o z n hb => ⟨inB b o (I.base.keep b o z n hb (by intro m; exact absurd (show b ∈ ([] : List Addr) from m) (by simp))) hb (Heap.lt_size z), I.base.free b o z n (by intro m; exact absurd (show b ∈ ([] : List Addr) from m) (by simp))⟩,
    fun b o z n hb => ⟨?_, I.base.free b o z n (by intro m; exact absurd (show b ∈ ([] : List Addr) from m) (by simp))⟩, fun b o z n => ?_, I.base.tups, I.base.frzs, I.base.tbls, x1⟩, q⟩
  · obtain ⟨sl, z1⟩ := I.base.slot b o z n hb (by intro m; exact absurd (show b ∈ ([] : List Addr) from m) (by simp))
    obtain ⟨_, o', ho', nd⟩ := I.ok.funs.mem hb
    have e' : o' = o := Option.some.inj (ho'.symm.trans z)
    subst e'
    obtain ⟨sl2, z2⟩ := x4 b _ (hx.keeps _ _ z1) nd
    exact ⟨sl2, z2⟩
  · have nfr : b ∉ frs (envOfC qual scope s.heap.objs.size f cd :: outer) := fun m => by
      rw [stk] at m
      rcases List.mem_cons.mp m with z' | z'
      · exact absurd (Heap.lt_size z) (by rw [z']; exact Nat.lt_irrefl _)
      · exact n (I.ok.frf b z')
    obtain ⟨o', z1⟩ := I.base.there b o z (by intro m; exact absurd (show b ∈ ([] : List Addr) from m) (by simp))
    exact ⟨o', PySem.W.hideAll_get _ z1 nfr⟩
theorem passX {E' : XK} (hE : ∀ C d H', E' C d H' → E C d H') : Passes (CXf P w) (cxOf (CXf P w) P w K mg base N qual scope f cd A outer s H E) E' := by
  intro pins σ H1 s1 e s' I h
  obtain ⟨p, C, a0, B, H', rfl, F, q⟩ := h
  have stk : frs (envOfC qual scope s.heap.objs.size f cd :: outer) = s.heap.objs.size :: frs outer := rfl
  have noex : ∀ b : Addr, b ∉ (cxOf (CXf P w) P w K mg base N qual scope f cd A outer s H E).ex := fun b m => absurd (show b ∈ ([] : List Addr) from m) (by simp)
  have nst : ∀ b o, s.heap.get? b = some o → b ∉ frs outer → b ∉ frs (cxOf (CXf P w) P w K mg base N qual scope f cd A outer s H E).stack := fun b o z hb m => by
    have m' : b ∈ s.heap.objs.size :: frs outer := m
    rcases List.mem_cons.mp m' with z' | z'
    · exact absurd (Heap.lt_size z) (by rw [z']; exact Nat.lt_irrefl _)
    · exact hb z'
  show wpAny _ _ (leaving (envOfC qual scope s.heap.objs.size f cd) (.ref p)) _ _ s'
  refine wpAny_leaves_onW (outer := outer) (L := s.heap.objs.size) I.ok.frames rfl F.fl fun h2 x1 x2 => ?_
  refine ⟨p, C, a0, B, H', rfl, ⟨F.os.trans I.os, F.bare, F.hok, fun b o z n hb => ?_, fun b o z n hb => ?_, fun b o z n => ?_, fun b xs z => F.tups b xs (I.base.tups b xs z), fun b o u z => F.frzs b o u (I.base.frzs b o u z), fun b ps z => ?_, x1⟩, hE _ _ _ q⟩
  · exact F.keep b o (I.base.keep b o z n hb (noex b)) (I.base.free b o z n (noex b)) (nst b o z hb)
  · obtain ⟨sl, z1⟩ := I.base.slot b o z n hb (noex b)
    have hb' : b ∈ frs (cxOf (CXf P w) P w K mg base N qual scope f cd A outer s H E).stack := List.mem_cons_of_mem _ hb
    obtain ⟨⟨sl2, z2⟩, n2⟩ := F.frame b _ z1 (I.base.free b o z n (noex b)) hb'
    obtain ⟨_, o', ho', nd⟩ := I.ok.funs.mem hb
    have e' : o' = o := Option.some.inj (ho'.symm.trans z)
    subst e'
    obtain ⟨sl3, z3⟩ := x2 b _ z2 nd
    exact ⟨⟨sl3, z3⟩, n2⟩
  · obtain ⟨o', z1⟩ := I.base.there b o z (noex b)
    have hno : b ∉ frs outer := fun m => n (I.ok.frf b m)
    cases n1 : H1 b with
    | none => exact ⟨o', (F.keep b o' z1 n1 (nst b o z hno)).1⟩
    | some u => exact F.there b o' z1 (by rw [n1]; intro z'; cases z')
  · obtain ⟨m1, z1⟩ := I.base.tbls b ps z
    obtain ⟨m2, z2⟩ := F.tbls b _ z1
    exact ⟨m1 ++ m2, by rw [z2, Array.append_assoc]⟩
end
theorem passN {P : Program} {w : World} {X : Cx} : Passes (CXf P w) X E0 := fun _ _ _ _ _ _ _ h => by
  obtain ⟨_, _, _, _, _, _, _, q⟩ := h
  exact q.elim
end L2
namespace L2
open PySem PySem.Spec PyProof.Rows PySem.W
abbrev bmV : List Value := [.type "ValueError", .type "Exception", .type "BaseException", .type "object"]
structure ECls (K : PySem.W.Frag) (C : Addr) : Prop where
  ex : PySem.W.excIn K C bmV "ValueError.__new__" = true
  kp : PySem.W.keepIn K (.ref C) = true
  ga : PySem.W.findIn K (.ref C) "__getattribute__" = some (some (.builtin "BaseException.__getattribute__"))
  gt : PySem.W.findIn K (.ref C) "__getattr__" = some none
  cl : PySem.W.findIn K (.ref C) "__class__" = some (some (.builtin "object.__class__"))
  mo : PySem.W.mroIn K C (.type "object") = some true
  mb : PySem.W.mroIn K C (.type "BaseException") = some true
  ty : (PySem.W.clsIn K C).isSome = true
theorem ecls_obj {K : PySem.W.Frag} {h : Heap} {C : Addr} {bmB : List Value} {newId : String} (X : K.In h) (q : PySem.W.excIn K C bmB newId = true) :
    ∃ bm N nm qn bs hdct sn sub ab col dd k0 k1 k2 k3 k5 mN, h.get? C = some (excClassObj nm qn C N bs bm hdct sn sub ab col dd k0 k1 k2 k3 k5 newId) ∧ h.Ns N mN ∧ mN "__init__" = none ∧ OwnTail h bmB bm := by
  unfold PySem.W.excIn at q
  split at q
  · rename_i dd cd sl ho
    split at q
    · rename_i C' bm k0 k1 k2 k3 n k5 hm hs
      simp only [Bool.and_eq_true, beq_iff_eq, Bool.not_eq_true'] at q
      obtain ⟨⟨⟨⟨⟨rfl, rfl⟩, hdel⟩, ht⟩, hok⟩, hni⟩ := q
      obtain ⟨nm, bs, mro, ns, qn, hd, sn, sub, ab, col, del⟩ := cd
      dsimp only at hm hdel hok hni
      subst hm hdel
      have hsl : sl = #[k0, k1, k2, k3, some (.builtin n), k5] := by
        obtain ⟨l⟩ := sl
        simp only at hs
        rw [hs]
      subst hsl
      exact ⟨bm, ns, nm, qn, bs, hd, sn, sub, ab, col, dd, k0, k1, k2, k3, k5, _, X _ _ ho, .of_isNs (isNs_of_in X hok), nsMap_none_of_in X hok hni, tail_of_in X ht⟩
    · cases q
  · cases q
def IsX (p : Addr) (C : Value) (h : Heap) : Prop := ∃ o, h.get? p = some o ∧ o.cls = C
abbrev excO (p : Addr) (C : Value) : HO := .ext (IsX p C)
theorem IsX.ok {P : Program} {w : World} {H : Hp} {h : Heap} {p : Addr} {C : Value} (x : IsX p C h) : ObjOk P w H h p (excO p C) :=
  ⟨x, (let ⟨o, e, _⟩ := x; ⟨o, e⟩), fun h1 h2 ⟨o, e, r⟩ k => ⟨o, k o e, r⟩⟩
theorem ObjOk.get {P : Program} {w : World} {H : Hp} {h : Heap} {a : Addr} {o : HO} (x : ObjOk P w H h a o) : ∃ u, h.get? a = some u := by
  cases o with
  | lst xs => obtain ⟨_, _, _, _, e⟩ := x; exact ⟨_, e⟩
  | tup xs => obtain ⟨_, _, _, ob, e, _⟩ := x; exact ⟨_, e⟩
  | dK kvs => obtain ⟨_, _, _, _, o, _, _, e, _⟩ := x; exact ⟨_, e⟩
  | dT kvs => obtain ⟨_, _, _, _, o, _, _, e, _⟩ := x; exact ⟨_, e⟩
  | set S n => obtain ⟨o, _, _, _, e, _⟩ := x; exact ⟨_, e⟩
  | ins C dx fs => obtain ⟨_, _, _, e, _⟩ := x; exact ⟨_, e⟩
  | own y => exact x
  | xd fs => obtain ⟨_, ⟨_, _, _, e, _⟩, _⟩ := x; exact ⟨_, e⟩
  | rng lo hi => obtain ⟨_, _, _, e⟩ := x; exact ⟨_, e⟩
  | frz ob u => obtain ⟨e, _⟩ := x; exact ⟨_, e⟩
  | tbl ps => exact ⟨_, (show h.get? a = some _ from x)⟩
  | met f y => exact ⟨_, (show h.get? a = some _ from x)⟩
  | ext φ => exact x.2.1
theorem HOk.freshN {P : Program} {w : World} {H : Hp} {h : Heap} {a : Addr} (x : HOk P w H h) (e : h.get? a = none) : H a = none := by
  cases q : H a with
  | none => rfl
  | some u => obtain ⟨o, z⟩ := (x a u q).get; rw [e] at z; cases z
theorem Inv.laidN {X : Cx} {pins : List (Addr × Obj)} {σ : St} {H : Hp} {s : Shared} {h' : Heap} {a : Addr} {o : HO} {t' : Nat} (I : Inv X pins σ H s) (k : ∀ b u, s.heap.get? b = some u → h'.get? b = some u) (hp : s.heap.get? a = none) (new : ObjOk X.prog X.w (upd H a o) h' a o) :
    Inv X pins σ (upd H a o) { s with heap := h', toks := t' } := by
  have hn := I.hok.freshN hp
  have ne : ∀ b u, s.heap.get? b = some u → b ≠ a := fun b u e z => by rw [z, hp] at e; cases e
  refine I.un ⟨fun b u e _ _ _ => k b u e, fun b u e _ _ _ => ⟨u.slots, k b u e⟩, fun b u e n _ => by rw [upd_ne (ne b u e)]; exact n, fun b u e _ => ⟨u, k b u e⟩, fun b xs e => by rw [upd_ne (ne_of_none e hn)]; exact e, fun b u v e => by rw [upd_ne (ne_of_none e hn)]; exact e, fun b ps e => ⟨#[], by rw [upd_ne (ne_of_none e hn), e]; simp⟩⟩ fun b u e => ?_
  by_cases hb : b = a
  · subst hb; rw [upd_same] at e; cases e; exact new
  · rw [upd_ne hb] at e
    exact (I.hok b u e).stay (fun c v _ q => k c v q) (fun c q => by rw [upd_ne (ne_of_none q hn)]; exact q) fun c xs q => by rw [upd_ne (ne_of_none q hn)]; exact q
section
variable {prog : Program} {w : World} {A : Around} {E : Value → Shared → Prop} {s : Shared} {K : PySem.W.Frag} {x C : Addr} {ox : Obj}
theorem type_at {M : Model} {h : Heap} (hx : h.get? x = some ox) (hc : ox.cls = .ref C) : PySem.W.Looks M h (typeOf (.ref x)) (.ref C) := hc ▸ (PySem.W.Looks.ld hx).andThen .now
open Builtin Builtin.ObjectAttr Builtin.Getset_descriptor in
theorem class_getX {tp : Value} {R : Result → Shared → Prop} (X : K.In s.heap) (hx : s.heap.get? x = some ox) (hc : ox.cls = .ref C) (hm : PySem.W.mroIn K C (.type "object") = some true)
    (h : R (.ok (.ret (.ref C))) s) : codeAny (model prog w) A (.call (.builtin "getset_descriptor.__get__") ⟨[.builtin "object.__class__", .ref x, tp], []⟩) R s := by
  obtain ⟨hh, g, dr, t, os⟩ := s
  have L0 := type_at (M := model prog w) hx hc
  have L1 := looks_mroIn (M := model prog w) X hm
  refine codeAny_call_builtin KF.slot_gs.plain KF.entry_gs (KF.slot_gs.check _ _ _ _ _ _ _ _ KF.type_class (KF.args_gs _ _ _) ?_)
  unfold Builtin.«getset_descriptor.__get__» descrGet
  rw [dga_obj]
  refine wpAny_bind (wpAny_pure ?_)
  unfold descrGetter descrCheckInstance descrNameAndClass isInstance
  simp only [KF.owner_class]
  repeat lk
  refine ⟨Code.quiet_builtin _ (by decide +kernel), codeAny_builtin KF.entry_class ?_⟩
  unfold Builtin.«object.__class__» shownTypeOf
  repeat lk
  exact h
theorem exc_matches {M : Model} {D : Addr} {b : Bool} {Q : Bool → Shared → Prop} {h : Heap} {g d t os} (X : K.In h) (TD : ECls K D) (hx : h.get? x = some ox) (hc : ox.cls = .ref C) (sub : PySem.W.subIn K (.ref C) (.ref D) = some b) (hq : Q b ⟨h, g, d, t, os⟩) :
    wpAny M A (excMatches (.ref x) (.ref D)) Q E ⟨h, g, d, t, os⟩ := by
  obtain ⟨bm, N, nm, qn, bs, hdct, sn, sub', ab, col, dd, k0, k1, k2, k3, k5, mN, hC, hN, hni, TL⟩ := ecls_obj X TD.ex
  have hcB : (Value.ref D :: bm).contains (.type "BaseException") = true := by rw [List.contains_cons, TL.hasType PySem.F.excBase_ValueError.hasBase, Bool.or_true]
  have L1 := looks_subIn (M := M) X sub
  have f := tc_notTuple
  unfold excMatches
  repeat (first | (with_reducible refine wpAny_loadPart_at hx ?_; rw [hc]) | with_reducible refine wpAny_loadPart_at hC ?_ | with_reducible refine L1.at ?_ | (with_reducible refine wpAny_isSubtype_exc hC ?_; rw [hcB]) | wp_step)
  cases b
  · repeat (first | exact hq | wp_step)
  · repeat (first | exact hq | wp_step)
theorem exc_entry {tk : Tok} {Q : Fin → Shared → Prop} {h : Heap} {g d t os} (T : ECls K C) (X : K.In h) (hx : h.get? x = some ox) (hc : ox.cls = .ref C) (hq : Q (.done (.ret (.ref C))) ⟨h, g, d, t, os⟩) :
    wpAny (model prog w) A (Builtin.«object.__getattribute__» ⟨[.ref x, .str "__class__" tk], []⟩) Q E ⟨h, g, d, t, os⟩ := by
  have f5 := F.typeOf_bexc_args
  have hT5 : (⟨h, g, d, t, os⟩ : Shared).TypeIs (.builtin "object.__class__") "getset_descriptor" := PySem.F.typeOf_object_class
  have f5' := PySem.F.typeOf_object_class
  have f6 := F.slot_gs_get.lookup
  have f7 := F.slot_gs_set.lookup
  have L1 := looks_findIn (M := model prog w) X T.cl
  repeat (any_goals (first | assumption | (with_reducible refine wpAny_loadPart_at hx ?_; rw [hc]) | with_reducible refine L1.at ?_ | wp_step))
  refine class_getX (s := ⟨h, g, d, t, os⟩) X hx hc T.mo ?_
  repeat (any_goals (first | assumption | wp_step))
theorem exc_check {M : Model} {nameV : Value} {Q : Unit → Shared → Prop} {h : Heap} {g d t os} (T : ECls K C) (X : K.In h) (hx : h.get? x = some ox) (hc : ox.cls = .ref C) (hq : Q () ⟨h, g, d, t, os⟩) :
    wpAny M A (checkBuiltinCall "BaseException.__getattribute__" ⟨[.ref x, nameV], []⟩) Q E ⟨h, g, d, t, os⟩ := by
  have hk : builtinKind "BaseException.__getattribute__" = some .slot := by decide +kernel
  have hsplit : splitId "BaseException.__getattribute__" = some ("BaseException", "__getattribute__") := by decide +kernel
  have ha := F.args_bexc_ga (.ref x) nameV
  have L1 := looks_mroIn (M := M) X T.mb
  simp only [checkBuiltinCall, hk, hsplit]
  refine wpAny_bind ?_
  · unfold isInstance
    repeat (first | (with_reducible refine wpAny_loadPart_at hx ?_; rw [hc]) | with_reducible refine L1.at ?_ | wp_step)
    exact hq
theorem exc_by {tk : Tok} {fill expr : Bool} {Q : Value → Shared → Prop} {h : Heap} {g d t os} (T : ECls K C) (X : K.In h) (hx : h.get? x = some ox) (hc : ox.cls = .ref C) (hq : Q (.ref C) ⟨h, g, d, t, os⟩) :
    wpAny (model prog w) A (getAttrBy (.ref x) (.str "__class__" tk) fill expr) Q E ⟨h, g, d, t, os⟩ := by
  have f3 := F.attr_ValueError.ga.bind (.ref x)
  have hx0 : (expr && onTheHeap (Value.builtin "BaseException.__getattribute__")) = false := by cases expr <;> rfl
  have hx2 : (Value.builtin "BaseException.__getattribute__" == Value.builtin "object.__getattribute__") = false := by decide +kernel
  have hx1 : (onTheHeap (Value.ref C) && Value.builtin "BaseException.__getattribute__" == Value.builtin "object.__getattribute__") = false := by rw [hx2]; rfl
  have L1 := looks_findIn (M := model prog w) X T.ga
  have L2 := looks_findIn (M := model prog w) X T.gt
  repeat (any_goals (first | assumption | (with_reducible refine wpAny_loadPart_at hx ?_; rw [hc]) | with_reducible refine L1.at ?_ | with_reducible refine L2.at ?_ | wp_step))
  refine codeAny_call_builtin F.attr_ValueError.ga.plain F.entry_bexc_ga (exc_check T X hx hc (exc_entry T X hx hc ?_))
  repeat (any_goals (first | assumption | wp_step))
theorem exc_attr {Q : Option Value → Shared → Prop} {h : Heap} {g d t os} (T : ECls K C) (X : K.In h) (hx : h.get? x = some ox) (hc : ox.cls = .ref C) (hq : Q (some (.ref C)) ⟨h, g, d, t + 1, os⟩) :
    wpAny (model prog w) A (getAttr? (.ref x) "__class__") Q E ⟨h, g, d, t, os⟩ := by
  unfold getAttr?
  repeat (any_goals (first | assumption | with_reducible apply exc_by T X hx hc | wp_step))
theorem kitx_exc (T : ECls K C) : PySem.W.KitX K (.ref x) (.ref C) (IsX x (.ref C)) where
  ty := fun _ _ _ ⟨o, e, c⟩ => type_at e c
  it := fun _ _ X _ => by
    obtain ⟨cdD, hcD⟩ := Option.isSome_iff_exists.mp T.ty
    unfold clsIn at hcD
    split at hcD
    · rename_i c' d' cd' sl' ho
      intro A' Q' E' s' k q
      unfold isType loadHead
      exact wpAny_bind (wpAny_loadPart (k _ _ (X _ _ ho)) (wpAny_pure q))
    · cases hcD
  ne := fun h tp dd its n sl X htp => by
    obtain ⟨cdD, hcD⟩ := Option.isSome_iff_exists.mp T.ty
    refine Bool.eq_false_iff.mpr fun q => ?_
    have e : C = tp := Value.ref.inj (beq_iff_eq.mp q)
    subst e
    unfold clsIn at hcD
    split at hcD
    · rename_i c' d' cd' sl' ho
      have z := (X _ _ ho).symm.trans htp
      cases z
    · cases hcD
  ca := fun {_ _ _ _ _ s} X ⟨o, e, c⟩ k => by
    obtain ⟨h, g, d, t, os⟩ := s
    exact exc_attr T X e c k
end
section
variable {X : Cx}
inductive TyX (K : PySem.W.Frag) (H : Hp) : V → Value → Prop where
  | of {v : V} {t : Value} (h : TyOf K H v t) : TyX K H v t
  | exc {p C : Addr} (T : ECls K C) (e : H p = some (excO p (.ref C))) : TyX K H (.ref p) (.ref C)
def rIsi (K : PySem.W.Frag) : List V → Hp → VK → Prop := fun xs H Q => ∃ x c cv t b, xs = [x, c] ∧ (c = .ty cv ∧ PySem.W.kitOne K t (.type cv) = some b) ∧ TyX K H x t ∧ Q (.bl b) H
theorem call_isi : CallR X (.builtin "isinstance") (rIsi X.K) := by
  intro pins s σ H xs us Q I r h
  obtain ⟨x, c, cv, t, b, rfl, ⟨rfl, e⟩, ty, q⟩ := h
  obtain ⟨u1, u2, rfl, r1, r2⟩ := r.two
  obtain rfl : u2 = Value.type cv := r2
  cases ty with
  | of ty => exact isinst_ok I r1 ty e fun tk => ⟨.bl b, H, I.tok tk, rfl, q⟩
  | @exc p C T ea =>
    obtain rfl : u1 = Value.ref p := r1
    have p1 : IsX p (.ref C) s.heap := (I.hok p _ ea).1
    exact PySem.W.kia_one (kitx_exc T) I.kIn p1 e (fun z => nomatch z) fun tk => ⟨.bl b, H, I.tok tk, rfl, q⟩
def rIsiC (K : PySem.W.Frag) : List V → Hp → VK → Prop := fun xs H Q => ∃ x c t b, xs = [x, .ref c] ∧ PySem.W.kitOne K t (.ref c) = some b ∧ TyX K H x t ∧ Q (.bl b) H
theorem call_isiC : CallR X (.builtin "isinstance") (rIsiC X.K) := by
  intro pins s σ H xs us Q I r h
  obtain ⟨x, c, t, b, rfl, e, ty, q⟩ := h
  obtain ⟨u1, u2, rfl, r1, r2⟩ := r.two
  obtain rfl : u2 = Value.ref c := r2
  cases ty with
  | of ty => exact isinst_ok I r1 ty e fun tk => ⟨.bl b, H, I.tok tk, rfl, q⟩
  | @exc p C T ea =>
    obtain rfl : u1 = Value.ref p := r1
    have p1 : IsX p (.ref C) s.heap := (I.hok p _ ea).1
    exact PySem.W.kia_one (kitx_exc T) I.kIn p1 e (fun z => nomatch z) fun tk => ⟨.bl b, H, I.tok tk, rfl, q⟩
end
section
variable {X : Cx} {x : Str} {C : Addr} {np cpos pos : Pos} {e : Expr} {es : List Expr} {t : TA}
def tRaise (q : Hp → Prop) (t : TA) : TS := fun _ σ H => t σ H fun vs H1 => vs.length ≤ sizeLine ∧ q H1
theorem ps_raise {q : Hp → Prop} (hc : X.calm = true) (T : ECls X.K C) (hg : Gl X x) (hm : X.mg x = some (.ref C)) (ha : PA X (e :: es) t)
    (hxe : ∀ (pins : List (Addr × Obj)) (σ : St) (H1 : Hp) (s1 : Shared) (h' : Heap) (p : Addr) (vs : List Value), Inv X pins σ H1 s1 → Heap.MadeExcOf s1.heap h' p (.ref C) vs → q H1 → X.xe (.ref p) { s1 with heap := h' })
    (hdb : (x == ("__debug__" : Str)) = false := by decide) (he : starEach (e :: es) X.env = (false, eval e X.env) :: starEach es X.env := by rfl) (hpl : (backTo cpos (starEach (e :: es) X.env)).any (·.1) = false := by rfl) :
    PS X (.Raise (some (.Call (.Name x np) (e :: es) [] cpos)) none pos) (tRaise q t) := by
  intro pins s σ H D I h
  obtain ⟨bm, N, nm, qn, bs, hdct, sn, sub, ab, col, dd, k0, k1, k2, k3, k5, mN, hC, hN, hni, TL⟩ := ecls_obj I.ok.mod.kin T.ex
  refine wpAny_Raise_call_subT (C := C) (nm := nm) (q := qn) (N := N) (bs := bs) (bm := bm) (hdct := hdct) (sn := sn) (sub := sub) (ab := ab) (col := col) (dd := dd) (k0 := k0) (k1 := k1) (k2 := k2) (k3 := k3) (k5 := k5)
    PySem.F.excBase_ValueError (mN := mN) (TL.hasType PySem.F.excBase_ValueError.hasBase) (I.ok.hd hc) hpl hni (ld_glob I hg hm ⟨rfl, ?_⟩ hdb)
  have h1 := ha cpos pins s σ H _ I h
  rw [he] at h1 ⊢
  exact Calls.evalArgs_plain (wpAny_mono h1 (fun us s2 ⟨vs, H2, I2, r, hl, z⟩ => ⟨rfl, (by show us.length ≤ sizeLine; rw [← r.length]; exact hl), I2.bk _ _ hC, hN.keeps I2.bk, TL.keeps I2.bk, fun h' p m => hxe pins σ H2 s2 h' p us I2 m z⟩) fun _ _ y => y)
end
end L2
namespace L2
open PySem PySem.Spec PyProof.Rows
def PassesS (CX : CXT) (X : Cx) (E : St → XK) : Prop := ∀ (pins : List (Addr × Obj)) (σ : St) (H : Hp) (s : Shared) (e : Value) (s' : Shared), Inv X pins σ H s → CX X.stack H s (E σ) e s' → X.xe e s'
def tCallS (sp : Sp) (dvs : List V) (E : St → XK) (t : TA) : TE := fun σ H Q => t σ H fun vs H1 => sp (vs ++ dvs) H1 Q (E σ)
section
variable {X : Cx} {CX : CXT} {k : Nat} {f C : Addr} {fd : FuncData} {ps : List Str} {sp : Sp} {dvs : List V} {ds : List Value} {E : St → XK} {x m : Str} {p pos apos : Pos} {e o : Expr} {es : List Expr} {ta : TE} {t : TA}
theorem run_fnS {pins : List (Addr × Obj)} {σ : St} {H : Hp} {s : Shared} {Q : VK} {us : List Value} {vs : List V} (F : FnOk X.prog X.w X.K X.mg X.base CX k f fd ps sp) (hr : Room k X.A) (hb : Binds X.K fd ps ds) (hd : Vals dvs ds) (hx : PassesS CX X E)
    (I : Inv X pins σ H s) (r : Vals vs us) (h : sp (vs ++ dvs) H Q (E σ)) : wpAny (model X.prog X.w) X.A (call (.ref f) us) (EP X pins σ Q) X.xe s := by
  have r2 : Vals (vs ++ dvs) (us ++ ds) := r.append hd
  have hl : (us ++ ds).length = ps.length := by rw [← r2.length]; exact F.len _ _ _ _ h
  refine wpAny_call (codeAny_mono (F.run X.A X.stack s H ⟨us, []⟩ (us ++ ds) (vs ++ dvs) Q (E σ) hr I.env0 (hb s us I.kIn hl) r2 h) fun r s' hq => ?_)
  cases r with
  | error e => exact hx pins σ H s e s' I hq
  | ok fl =>
    cases fl with
    | ret u => exact I.after hq
    | next => exact False.elim hq
    | brk => exact False.elim hq
    | cont => exact False.elim hq
theorem pe_callS (F : FnOk X.prog X.w X.K X.mg X.base CX k f fd ps sp) (hr : Room k X.A) (hg : Gl X x) (hm : X.mg x = some (.ref f)) (hk : PySem.W.keepIn X.K (.ref f) = true) (hb : Binds X.K fd ps ds) (hd : Vals dvs ds) (hx : PassesS CX X E)
    (ha : PA X (e :: es) t) (hdb : (x == ("__debug__" : Str)) = false := by decide) (he : starEach (e :: es) X.env = (false, eval e X.env) :: starEach es X.env := by rfl) (hpl : (backTo pos (starEach es X.env)).any (·.1) = false := by rfl) :
    PE X (.Call (.Name x p) (e :: es) [] pos) (tCallS sp dvs E t) := by
  intro pins s σ H Q I h
  refine wpAny_Call_Name_kw (ld_glob I hg hm ?_ hdb)
  refine PySem.W.callWith_K (h₀ := X.base) I.ok.mod.kin hk (thn (ha pos pins s σ H _ I h) fun us s1 ⟨vs, H1, I1, r, q⟩ => ⟨I1.kIn, ?_⟩) he hpl
  exact run_fnS F hr hb hd hx I1 r q
end
structure RoomW (k : Nat) (A : Around) : Prop where
  dp : A.depth + 3 * k + 5 < recursionLimit
  un : A.units + 16 * k + 200 < cLine
theorem RoomW.deeper {k : Nat} {A : Around} (r : RoomW (k + 1) A) (env : Env) : RoomW k (A.deeper env) :=
  ⟨by have := r.dp; show A.depth + 1 + 3 * k + 5 < _; omega, by have := r.un; show A.units + 3 + 16 * k + 200 < _; omega⟩
theorem RoomW.depth {k : Nat} {A : Around} (r : RoomW k A) : A.depth < recursionLimit := by have := r.dp; omega
structure FnOkW (P : Program) (w : World) (K : PySem.W.Frag) (mg : Str → Option Value) (base : Heap) (CX : CXT) (k : Nat) (f : Addr) (fd : FuncData) (ps : List Str) (sp : Sp) : Prop where
  len : ∀ vs H Q E, sp vs H Q E → vs.length = ps.length
  run : ∀ (A : Around) (outer : List Env) (s : Shared) (H : Hp) (args : Args) (us : List Value) (vs : List V) (Q : VK) (E : XK), RoomW k A → Env0 P w K mg base A outer s H → BindsTo s fd args (ps.zip us) → Vals vs us → sp vs H Q E →
    codeAny (model P w) A (.call (.ref f) args) (CR CX outer P w H s Q E) s
def cxOfW (CX : CXT) (P : Program) (w : World) (K : PySem.W.Frag) (mg : Str → Option Value) (base : Heap) (N : List Str) (qual : Str) (scope : Scope) (f : Addr) (cd : Value) (A : Around) (outer : List Env) (s : Shared) (H : Hp) (E : XK) : Cx :=
  { cxOf CX P w K mg base N qual scope f cd A outer s H E with calm := false }
theorem inv_startW {CX : CXT} {P : Program} {w : World} {K : PySem.W.Frag} {mg : Str → Option Value} {base : Heap} {N ps : List Str} {qual : Str} {scope : Scope} {f : Addr} {cd : Value} {A : Around} {outer : List Env} {s s1 : Shared} {H : Hp} {E : XK} {us : List Value} {vs : List V}
    (S : FnScope N ps scope) (e0 : Env0 P w K mg base A outer s H) (hl : vs.length = ps.length) (r : Vals vs us)
    (x : InCallC s s.heap.objs.size (bindL (envOfC qual scope s.heap.objs.size f cd).kindOf (ps.zip us) fun _ => none) (cellsFrom (s.heap.objs.size + 1) scope.names []) (bindC (envOfC qual scope s.heap.objs.size f cd).kindOf (ps.zip us) fun _ => none) s1) :
    Inv (cxOfW CX P w K mg base N qual scope f cd A outer s H E) [] (start N vs) H s1 := by
  have hpl : ps.length ≤ N.length := by have := congrArg List.length S.pre; rw [List.length_take] at this; omega
  obtain ⟨h1, tk, rfl, hk⟩ := x.done
  have noA : ∀ b : Addr, b ∉ (cxOfW CX P w K mg base N qual scope f cd A outer s H E).ex := fun b z => absurd (show b ∈ ([] : List Addr) from z) (by simp)
  refine ⟨⟨e0.mod, S.kind, rfl, rfl, Nat.le_refl _, fun y z c h1 h2 => ?_, fun y hy => ?_, fun y c _ h => ?_, fun z => absurd (show false = true from z) (by decide), Around.frames_deeper e0.frames, .inr ⟨rfl, rfl⟩, fun b z => absurd z (noA b), e0.bs, e0.bsz, fun b _ _ => noA b, fun b z => absurd z (noA b), e0.funs, e0.frf⟩,
    rfl, e0.bare, Un.kept hk, ⟨_, x.toInCall.ns, fun i y v h1 h2 h3 => ?_⟩, fun y c h => ⟨_, x.cell y c h⟩, e0.hok.fresh (Nat.le_refl _), fun y c h => ?_, fun p hp => absurd (show p ∈ ([] : List (Addr × Obj)) from hp) (by simp), e0.hok.kept hk, ?_⟩
  · exact name_of_addr x.apart (PySem.mem_of_lookup h1) (PySem.mem_of_lookup h2)
  · have hy : scope.names.lookup y = some .cell ∨ scope.names.lookup y = some .free := hy
    rcases hy with hy | hy
    · exact cell_has hy
    · exact absurd rfl (S.nofree _ (PySem.mem_of_lookup hy))
  · exact Nat.le_of_lt (x.above y c (PySem.mem_of_lookup h))
  · have hi : i < vs.length := by
      unfold start at h2
      by_cases hi : i < vs.length
      · exact hi
      · rw [List.getElem?_append_right (by simpa using hi)] at h2
        rw [List.getElem?_replicate] at h2
        split at h2 <;> cases h2
    have ha : vs[i]? = some v := by
      unfold start at h2
      rw [List.getElem?_append_left (by simpa using hi), List.getElem?_map] at h2
      cases e : vs[i]? with
      | none => rw [e] at h2; cases h2
      | some a => rw [e] at h2; cases h2; rfl
    obtain ⟨u, hu, rv⟩ := r.get ha
    have hp : ps[i]? = some y := by
      rw [← S.pre, List.getElem?_take_of_lt (by omega)]; exact h1
    have ndP : ps.Nodup := by rw [← S.pre]; exact S.nd.sublist (List.take_sublist _ _)
    refine ⟨u, rv, ?_⟩
    rcases S.par y (List.mem_of_getElem? hp) with k | k
    · exact .inl ⟨k, bindL_get ndP hp hu k⟩
    · obtain ⟨c, e⟩ := cell_has (n := s.heap.objs.size + 1) k
      refine .inr ⟨.inl k, c, e, ?_⟩
      have q := x.cell y c e
      rw [bindC_get ndP hp hu (by show scope.names.lookup y ≠ _; rw [k]; decide)] at q
      exact q
  · exact e0.hok.fresh (Nat.le_of_lt (x.above y c (PySem.mem_of_lookup h)))
  · unfold start
    show _ = N.length
    rw [List.length_append, List.length_map, List.length_replicate]
    omega
theorem fn_ofW {CX : CXT} {P : Program} {w : World} {K : PySem.W.Frag} {mg : Str → Option Value} {base : Heap} {k : Nat} {f : Addr} {name qual : Str} {params : Arguments} {body : List Stmt} {scope : Scope} {dV kV doc pm cdv ct oc : Value} {an od : Option Addr}
    {osl : Array (Option Value)} {N ps : List Str} {sp : Sp} (lk : K.lookup f = some ⟨oc, od, .func (PySem.W.fnOf name qual params body scope dV kV doc pm an cdv ct), osl⟩) (hcd : PySem.W.codeIn K cdv qual = true) (S : FnScope N ps scope)
    (len : ∀ vs H Q E, sp vs H Q E → vs.length = ps.length)
    (hbody : ∀ (A : Around) (outer : List Env) (s : Shared) (H : Hp) (vs : List V) (Q : VK) (E : XK), RoomW k (A.deeper (envOfC qual scope s.heap.objs.size f cdv)) → sp vs H Q E →
      ∃ t, PSs (cxOfW CX P w K mg base N qual scope f cdv A outer s H E) body t ∧ t { nx := fun _ H' => Q .non H', rt := Q } (start N vs) H) :
    FnOkW P w K mg base CX (k + 1) f (PySem.W.fnOf name qual params body scope dV kV doc pm an cdv ct) ps sp := by
  refine ⟨len, fun A outer s H args us vs Q E hr e0 hb r hsp => ?_⟩
  have hl := len _ _ _ _ hsp
  have KX : K.In s.heap := e0.mod.kin.keeps fun b o e => (e0.bs b o e).1
  have lim : s.heap.NoLimit := e0.mod.nolimit.keeps fun b o e => (e0.bs b o e).1
  have hkind : ∀ y ∈ ps.zip us, scope.names.lookup y.1 = some .local ∨ (scope.names.lookup y.1 = some .cell ∧ ((cellsFrom (s.heap.objs.size + 1) scope.names []).lookup y.1).isSome = true) := fun ⟨n, v⟩ hy => by
    rcases S.par n (List.of_mem_zip hy).1 with q | q
    · exact .inl q
    · exact .inr ⟨q, PySem.W.cellsFrom_some _ _ _ (.inl q)⟩
  refine codeAny_call_function hr.depth (KX _ _ lk) rfl S.co S.gen rfl (PySem.W.codeRec_of KX hcd) (hb _ _ _ _ ?_)
  refine wpAny_newFunctionEnv_cells S.kind hkind fun env he s1 x => ?_
  subst he
  refine ⟨lim.keeps x.toInCall.keep, codeAny_func ?_⟩
  obtain ⟨t, ht, hq⟩ := hbody A outer s H vs Q E (hr.deeper _) hsp
  have I : Inv (cxOfW CX P w K mg base N qual scope f cdv A outer s H E) [] (start N vs) H s1 := inv_startW S e0 hl r x
  refine wpAny_mono (ht [] s1 (start N vs) H _ I hq) (fun fl s' hs => ?_) fun e s' hs => hs
  have fin : ∀ {σ' : St} {H' : Hp} {v : V} {u : Value}, Inv (cxOfW CX P w K mg base N qual scope f cdv A outer s H E) [] σ' H' s' → RelV v u → Q v H' → CE outer P w H s Q u s' :=
    fun {σ' H' v u} J rv q => ⟨v, H', J.os, J.bare, J.base, J.hok, rv, q⟩
  cases fl with
  | ret u =>
    obtain ⟨v, σ', H', J, rv, q⟩ := hs
    exact fin J rv q
  | next =>
    obtain ⟨σ', H', J, q⟩ := hs
    exact fin (v := V.non) (u := Value.none) J rfl q
  | brk =>
    obtain ⟨_, _, _, q⟩ := hs
    exact False.elim q
  | cont =>
    obtain ⟨_, _, _, q⟩ := hs
    exact False.elim q
section
variable {X : Cx} {CX : CXT} {k : Nat} {f : Addr} {fd : FuncData} {ps : List Str} {sp : Sp} {dvs : List V} {ds : List Value} {E : XK} {x : Str} {p pos : Pos} {e : Expr} {es : List Expr} {t : TA}
theorem pe_callW (F : FnOkW X.prog X.w X.K X.mg X.base CX k f fd ps sp) (hr : RoomW k X.A) (hg : Gl X x) (hm : X.mg x = some (.ref f)) (hk : PySem.W.keepIn X.K (.ref f) = true) (hb : Binds X.K fd ps ds) (hd : Vals dvs ds) (hx : Passes CX X E)
    (ha : PA X (e :: es) t) (hdb : (x == ("__debug__" : Str)) = false := by decide) (he : starEach (e :: es) X.env = (false, eval e X.env) :: starEach es X.env := by rfl) (hpl : (backTo pos (starEach es X.env)).any (·.1) = false := by rfl) :
    PE X (.Call (.Name x p) (e :: es) [] pos) (tCall sp dvs E t) := by
  intro pins s σ H Q I h
  refine wpAny_Call_Name_kw (ld_glob I hg hm ?_ hdb)
  refine PySem.W.callWith_K (h₀ := X.base) I.ok.mod.kin hk (thn (ha pos pins s σ H _ I h) fun us s1 ⟨vs, H1, I1, r, q⟩ => ⟨I1.kIn, ?_⟩) he hpl
  have r2 : Vals (vs ++ dvs) (us ++ ds) := r.append hd
  have hl : (us ++ ds).length = ps.length := by rw [← r2.length]; exact F.len _ _ _ _ q
  refine wpAny_call (codeAny_mono (F.run X.A X.stack s1 H1 ⟨us, []⟩ (us ++ ds) (vs ++ dvs) Q E hr I1.env0 (hb s1 us I1.kIn hl) r2 q) fun r s' hq => ?_)
  cases r with
  | error e => exact hx pins σ H1 s1 e s' I1 hq
  | ok fl =>
    cases fl with
    | ret u => exact I1.after hq
    | next => exact False.elim hq
    | brk => exact False.elim hq
    | cont => exact False.elim hq
end
section
variable {P : Program} {w : World} {K : PySem.W.Frag} {mg : Str → Option Value} {base : Heap}
theorem Fun.okX {x qual : Str} {st : Stmt} {f : Addr} {fd : FuncData} {N ps : List Str} {k : Nat} {sp : Sp} (F : Fun K x qual st f fd) (S : FnScope N ps (defScope st)) (len : ∀ vs H Q E, sp vs H Q E → vs.length = ps.length)
    (hbody : ∀ (cdv : Value) (A : Around) (outer : List Env) (s : Shared) (H : Hp) (vs : List V) (Q : VK) (E : XK), Room k (A.deeper (envOfC qual (defScope st) s.heap.objs.size f cdv)) → sp vs H Q E →
      ∃ t, PSs (cxOf (CXf P w) P w K mg base N qual (defScope st) f cdv A outer s H E) (defBody st) t ∧ t { nx := fun _ H' => Q .non H', rt := Q } (start N vs) H) : FnOk P w K mg base (CXf P w) (k + 1) f fd ps sp := by
  obtain ⟨oc, od, kV, doc, pm, an, cdv, ct, osl, rfl, lk, hcd⟩ := F.ex
  exact fn_of lk hcd S len fun A outer s H vs Q E hr hsp => hbody cdv A outer s H vs Q E hr hsp
theorem Fun.okW {x qual : Str} {st : Stmt} {f : Addr} {fd : FuncData} {N ps : List Str} {k : Nat} {sp : Sp} (F : Fun K x qual st f fd) (S : FnScope N ps (defScope st)) (len : ∀ vs H Q E, sp vs H Q E → vs.length = ps.length)
    (hbody : ∀ (cdv : Value) (A : Around) (outer : List Env) (s : Shared) (H : Hp) (vs : List V) (Q : VK) (E : XK), RoomW k (A.deeper (envOfC qual (defScope st) s.heap.objs.size f cdv)) → sp vs H Q E →
      ∃ t, PSs (cxOfW (CXf P w) P w K mg base N qual (defScope st) f cdv A outer s H E).nox (defBody st) t ∧ t { nx := fun _ H' => Q .non H', rt := Q } (start N vs) H) : FnOkW P w K mg base (CXf P w) (k + 1) f fd ps sp := by
  obtain ⟨oc, od, kV, doc, pm, an, cdv, ct, osl, rfl, lk, hcd⟩ := F.ex
  refine fn_ofW lk hcd S len fun A outer s H vs Q E hr hsp => ?_
  obtain ⟨t, h, q⟩ := hbody cdv A outer s H vs Q E hr hsp
  exact ⟨t, h.nox, q⟩
end
end L2
namespace L2
open PySem PySem.Spec PyProof.Rows
abbrev Cx.trying (X : Cx) (pn : List (Addr × Obj)) (xe : Value → Shared → Prop) : Cx := { X with pn := pn, xe := xe }
abbrev Cx.handling (X : Cx) (pn : List (Addr × Obj)) (p : Addr) : Cx := { X with pn := pn, xe := fun _ _ => False, calm := false, A := X.A.mark (some (.ref p)) }
theorem Cx.Ok.trying {X : Cx} (ok : X.Ok) (pn : List (Addr × Obj)) (xe : Value → Shared → Prop) : (X.trying pn xe).Ok :=
  ⟨ok.mod, ok.kind, ok.glob, ok.blt, ok.above, ok.inj, ok.has, ok.cab, ok.hd, ok.frames, ok.stk, ok.exf, ok.bs, ok.bsz, ok.noex, ok.exfs, ok.funs, ok.frf⟩
theorem Cx.Ok.handling {X : Cx} (ok : X.Ok) (pn : List (Addr × Obj)) (p : Addr) : (X.handling pn p).Ok :=
  ⟨ok.mod, ok.kind, ok.glob, ok.blt, ok.above, ok.inj, ok.has, ok.cab, fun z => absurd (show false = true from z) (by decide), ok.frames, ok.stk, ok.exf, ok.bs, ok.bsz, ok.noex, ok.exfs, ok.funs, ok.frf⟩
section
variable {X : Cx} {pins : List (Addr × Obj)} {σ : St} {H : Hp} {s : Shared}
theorem Inv.trying (I : Inv X pins σ H s) (xe : Value → Shared → Prop) : Inv (X.trying (X.pn ++ pins) xe) [] σ H s :=
  ⟨I.ok.trying _ _, I.os, I.bare, I.base, I.loc, I.cell, I.free, I.freeC, fun p hp => I.pin p (by simpa using hp), I.hok, I.len⟩
theorem Inv.untrying {pins' : List (Addr × Obj)} {xe : Value → Shared → Prop} (ok : X.Ok) (I : Inv (X.trying (X.pn ++ pins) xe) pins' σ H s) : Inv X pins σ H s :=
  ⟨ok, I.os, I.bare, I.base, I.loc, I.cell, I.free, I.freeC, fun p hp => I.pin p (List.mem_append_left _ hp), I.hok, I.len⟩
theorem Inv.unhandling {pins' : List (Addr × Obj)} {p : Addr} (ok : X.Ok) (I : Inv (X.handling (X.pn ++ pins) p) pins' σ H s) : Inv X pins σ H s :=
  ⟨ok, I.os, I.bare, I.base, I.loc, I.cell, I.free, I.freeC, fun p hp => I.pin p (List.mem_append_left _ hp), I.hok, I.len⟩
theorem inv_handling {xe : Value → Shared → Prop} {pins' : List (Addr × Obj)} {B h6 : Heap} {p : Addr} {C a0 : Value} {H' : Hp} {s' : Shared} (ok : X.Ok) (I : Inv (X.trying (X.pn ++ pins) xe) pins' σ H s)
    (F : FlyOk X.prog X.w X.stack H s B p C a0 H' s') (fl : Heap.FlyingW B X.stack p C a0 h6) (sm : s'.heap.UpToSlots h6) :
    H' p = none ∧ Inv (X.handling (X.pn ++ pins) p) [] σ (upd H' p (excO p C)) { s' with heap := h6 } := by
  have hp : H' p = none := F.hok.freshN fl.2.1
  have nfr : ∀ b ∈ frs X.stack, b ≠ p := fun b hb z => by
    obtain ⟨_, o, ho, nd⟩ := fl.2.2.1.mem hb
    obtain ⟨oe, vs, _, _, _, he, _, hd, _⟩ := fl.2.2.2
    rw [z] at ho
    have e : o = oe := Option.some.inj (ho.symm.trans he)
    rw [e] at nd
    exact nd vs hd
  have ne : ∀ b o, s.heap.get? b = some o → H b = none → b ≠ p := fun b o e n z => by
    by_cases hb : b ∈ frs X.stack
    · exact nfr b hb z
    · have q := (F.keep b o e n hb).1
      rw [z, fl.2.1] at q; cases q
  have neT : ∀ {b : Addr} {u : HO}, H' b = some u → b ≠ p := fun {b u} e z => by rw [z, hp] at e; cases e
  have U : Un (frs X.stack) [] H (upd H' p (excO p C)) s.heap h6 := {
    keep := fun b o e n hb _ => fl.1 _ _ (F.keep b o e n hb).1
    slot := fun b o e n hb _ => by
      obtain ⟨⟨sl, q⟩, _⟩ := F.frame b o e n hb
      obtain ⟨_, o', ho', nd⟩ := F.fl.2.2.1.mem hb
      have e' : o' = { o with slots := sl } := Option.some.inj (ho'.symm.trans q)
      obtain ⟨sl2, q2⟩ := sm b o' ho' nd
      rw [e'] at q2
      exact ⟨sl2, q2⟩
    free := fun b o e n _ => by
      rw [upd_ne (ne b o e n)]
      by_cases hb : b ∈ frs X.stack
      · exact (F.frame b o e n hb).2
      · exact (F.keep b o e n hb).2
    there := fun b o e _ => by
      cases n : H b with
      | none =>
        by_cases hb : b ∈ frs X.stack
        · obtain ⟨_, o', ho', nd⟩ := fl.2.2.1.mem hb
          exact ⟨o', ho'⟩
        · exact ⟨o, fl.1 _ _ (F.keep b o e n hb).1⟩
      | some u =>
        obtain ⟨o', q⟩ := F.there b o e (by rw [n]; intro z; cases z)
        exact ⟨o', fl.1 _ _ q⟩
    tups := fun b xs e => by rw [upd_ne (neT (F.tups b xs e))]; exact F.tups b xs e
    frzs := fun b o u e => by rw [upd_ne (neT (F.frzs b o u e))]; exact F.frzs b o u e
    tbls := fun b ps e => by
      obtain ⟨m, q⟩ := F.tbls b ps e
      exact ⟨m, by rw [upd_ne (neT q)]; exact q⟩ }
  have hok : HOk X.prog X.w (upd H' p (excO p C)) h6 := fun b u e => by
    by_cases hb : b = p
    · subst hb
      rw [upd_same] at e; cases e
      obtain ⟨o, q, c⟩ := fl.there
      exact IsX.ok ⟨o, q, c⟩
    · rw [upd_ne hb] at e
      exact (F.hok b u e).stay (fun c v _ q => fl.1 c v q) (fun c q => by rw [upd_ne (neT q)]; exact q) fun c xs q => by rw [upd_ne (neT q)]; exact q
  have J := I.call' (s' := { s' with heap := h6 }) (ch := []) F.os U hok F.bare fun b z => absurd z (by simp)
  exact ⟨hp, ⟨ok.handling _ _, J.os, J.bare, J.base, J.loc, J.cell, J.free, J.freeC, fun q hq => J.pin q (List.mem_append_left _ (by simpa using hq)), J.hok, J.len⟩⟩
end
def tTry (K : PySem.W.Frag) (Dc : Addr) (i : Nat) (E : St → XK) (tb th : TS) : TS := fun D σ H => tb D σ H ∧ ∀ σ' C H', E σ' C none H' → PySem.W.subIn K C (.ref Dc) = some true ∧ (∃ Cc, C = .ref Cc) ∧
  ∀ p, H' p = none → th { nx := fun σ2 H2 => D.nx (σ2.set i none) H2, rt := D.rt, bk := fun σ2 H2 => D.bk (σ2.set i none) H2, ct := fun σ2 H2 => D.ct (σ2.set i none) H2 } (σ'.set i (some (.ref p))) (upd H' p (excO p C))
theorem ps_try {X : Cx} {body suite : List Stmt} {b₀ : Stmt} {x n : Str} {np hpos pos : Pos} {Dc : Addr} {i : Nat} {E : St → XK} {tb th : TS} (TD : ECls X.K Dc) (hg : Gl X x) (hm : X.mg x = some (.ref Dc)) (hst : X.stack = X.env :: X.outer) (hfr : X.env.frame = some X.env.locals)
    (hN : X.N.Nodup) (hi : X.N[i]? = some n) (hn : X.env.scope.names.lookup n = some .local)
    (hb : ∀ pn xe, PassesS (CXf X.prog X.w) (X.trying pn xe) E → PSs (X.trying pn xe) body tb) (hh : ∀ pn p, PSs (X.handling pn p) (b₀ :: suite) th) (hdb : (x == ("__debug__" : Str)) = false := by decide) :
    PS X (.Try body [.ExceptHandler (some (.Name x np)) (some n) (b₀ :: suite) hpos] [] [] pos) (tTry X.K Dc i E tb th) := by
  intro pins s σ H D I h
  obtain ⟨h1, h2⟩ := h
  refine wpAny_Try_except ?_
  have hcls : (X.env.scope.kind == .class || (X.env.scope.kind == .module && X.env.locals != X.env.globals)) = false := by rw [I.ok.kind]; rfl
  refine wpAny_mono (hb (X.pn ++ pins) _ ?_ [] s σ H D (I.trying _) h1) (fun f s1 q => ?_) fun e s1 q => q
  · -- an exception has come
    intro pins1 σ1 H1 s1 e s' I1 hcx
    obtain ⟨p, C, a0, B, H', rfl, F, q⟩ := hcx
    obtain ⟨hsub, ⟨Cc, hCc⟩, hth⟩ := h2 σ1 C H' q
    subst hCc
    have F' : FlyOk X.prog X.w X.stack H1 s1 B p (.ref Cc) a0 H' s' := F
    have fl0 := F'.fl
    rw [hst] at fl0
    refine wpAny_looks_onW (by rw [I.ok.frames, hst]) hfr fl0 fun h4 held4 sm4 => ?_
    refine wpAny_landsW held4 fun h5 fl5 sm5 => ?_
    have base5 : ∀ b o, X.base.get? b = some o → h5.get? b = some o := fun b o e => by
      obtain ⟨e1, n1⟩ := I1.bs b o e
      refine fl5.1 _ _ (F'.keep b o e1 n1 fun z => ?_).1
      have := (I1.stack.mem z).1
      rw [e] at this; cases this
    have kin5 : X.K.In h5 := I.ok.mod.kin.keeps base5
    obtain ⟨oe, hoe, hoc⟩ := fl5.there
    refine wpAny_handleBy_cons (codeAny_handlers_test (Calls.Name_function_global I.ok.kind hg (Calls.loadGlobal_global (by rw [I.ok.glob]; exact I.ok.mod.glob.keeps base5) hm ?_) hdb)) (by intro z; cases z)
    refine exc_matches (K := X.K) kin5 TD hoe hoc hsub ?_
    show codeAny _ _ _ _ _
    refine codeAny_handlers_suite_as ?_
    refine lands_againW fl5 fun h6 fl6 sm6 => ?_
    have fl6' : Heap.FlyingW B X.stack p (.ref Cc) a0 h6 := by rw [hst]; exact fl6
    obtain ⟨hp, IH⟩ := inv_handling I.ok I1 F' fl6' ((sm4.trans sm5).trans sm6)
    refine store_ok2 (X := X.handling (X.pn ++ pins) p) IH hN hi (.inl hn) (v := .ref p) rfl (fun s7 I7 _ => ?_) (.inr hn)
    refine wpAny_mono (hh _ p [] s7 _ _ _ I7 (hth p hp)) (fun f s8 q8 => ?_) fun _ _ z => z.elim
    have gone : ∀ {σ2 : St} {H2 : Hp} {Q : Unit → Shared → Prop}, Inv (X.handling (X.pn ++ pins) p) [] σ2 H2 s8 → (∀ s9, Inv X pins (σ2.set i none) H2 s9 → Q () s9) →
        wpAny (model X.prog X.w) X.A (do bindName X.env n .none; unbindBehindTheSuite X.env n hpos) Q X.xe s8 := fun {σ2 H2 Q} I8 k => by
      have I8' : Inv X pins σ2 H2 s8 := I8.unhandling I.ok
      refine wpAny_bind (wpAny_bindName (store_ok2 I8' hN hi (.inl hn) (v := .non) rfl (fun s9 I9 _ => ?_) (.inr hn)))
      obtain ⟨m, hm9, hl9⟩ := I9.loc
      have hiσ : i < (σ2.set i (some V.non)).length := by rw [I9.len]; exact (List.getElem?_eq_some_iff.mp hi).1
      have hiσ2 : i < σ2.length := by simpa using hiσ
      obtain ⟨u, ru, lk⟩ := hl9 i n .non hi (by rw [List.getElem?_set_self hiσ2]) (.inl hn)
      have hmn : m n = some u := by
        rcases lk with ⟨_, z⟩ | ⟨hk, _⟩
        · exact z
        · have hk' : X.env.scope.names.lookup n = some .cell ∨ X.env.scope.names.lookup n = some .free := hk
          rw [hn] at hk'
          rcases hk' with z | z <;> cases z
      unfold unbindBehindTheSuite
      refine wpAny_onRaise (wpAny_unbindName_local hn hm9 hmn hcls fun h' uu hn' sb => k _ ?_)
      obtain ⟨oL, _, _, hoL, _⟩ := id hm9
      have hok : HOk X.prog X.w H2 h' := fun b ob e => by
        refine (I9.hok b ob e).stay (fun c w' hc q => (sb.2 c ?_).trans q) (fun _ q => q) fun _ _ q => q
        rintro rfl
        rcases hc with rfl | hc
        · rw [I9.free] at e; cases e
        · rw [I9.free] at hc; cases hc
      have nL : ∀ b o, X.s₀.heap.get? b = some o → b ≠ X.env.locals := fun b o e => Nat.ne_of_lt (Nat.lt_of_lt_of_le (Heap.lt_size e) I9.ok.above)
      refine ⟨I9.ok, I9.os, I9.bare, ⟨fun b o e n' hb hx => (sb.2 b (nL b o e)).trans (I9.base.keep b o e n' hb hx), fun b o e n' hb hx => ?_, I9.base.free, fun b o e hx => ?_, I9.base.tups, I9.base.frzs, I9.base.tbls⟩, ⟨_, hn', fun j y v e1 e2 e3 => ?_⟩, fun y c e => ?_, I9.free, I9.freeC, fun q hq => ?_, hok, by simpa using I9.len⟩
      · obtain ⟨sl, e1⟩ := I9.base.slot b o e n' hb hx
        exact ⟨sl, (sb.2 b (nL b o e)).trans e1⟩
      · obtain ⟨o', e1⟩ := I9.base.there b o e hx
        exact ⟨o', (sb.2 b (nL b o e)).trans e1⟩
      · by_cases hj : j = i
        · subst hj
          rw [List.getElem?_set_self hiσ2] at e2
          cases e2
        · rw [List.getElem?_set_ne (Ne.symm hj)] at e2
          obtain ⟨u', r', l'⟩ := hl9 j y v e1 (by rw [List.getElem?_set_ne (Ne.symm hj)]; exact e2) e3
          refine ⟨u', r', ?_⟩
          rcases l' with ⟨k1, z⟩ | ⟨k1, c, z1, z2⟩
          · have : y ≠ n := fun e => hj (nodup_ix hN e1 (e ▸ hi))
            exact .inl ⟨k1, by simp [this, z]⟩
          · exact .inr ⟨k1, c, z1, z2.sameBut sb (I9.cne y c z1)⟩
      · obtain ⟨w', z⟩ := I9.cell y c e
        exact ⟨w', z.sameBut sb (I9.cne y c e)⟩
      · obtain ⟨e, n', ne, nf, d⟩ := I9.pin q hq
        exact ⟨(sb.2 q.1 ne).trans e, n', ne, nf, d⟩
    cases f with
    | next => obtain ⟨σ2, H2, I8, q8⟩ := q8; exact gone I8 fun s9 I9 => ⟨_, H2, I9, q8⟩
    | brk => obtain ⟨σ2, H2, I8, q8⟩ := q8; exact gone I8 fun s9 I9 => ⟨_, H2, I9, q8⟩
    | cont => obtain ⟨σ2, H2, I8, q8⟩ := q8; exact gone I8 fun s9 I9 => ⟨_, H2, I9, q8⟩
    | ret u => obtain ⟨v, σ2, H2, I8, r8, q8⟩ := q8; exact gone I8 fun s9 I9 => ⟨v, _, H2, I9, r8, q8⟩
  · cases f with
    | next => obtain ⟨σ2, H2, I8, q8⟩ := q; exact wpAny_execs_nil ⟨σ2, H2, I8.untrying I.ok, q8⟩
    | brk => obtain ⟨σ2, H2, I8, q8⟩ := q; exact ⟨σ2, H2, I8.untrying I.ok, q8⟩
    | cont => obtain ⟨σ2, H2, I8, q8⟩ := q; exact ⟨σ2, H2, I8.untrying I.ok, q8⟩
    | ret u => obtain ⟨v, σ2, H2, I8, r8, q8⟩ := q; exact ⟨v, σ2, H2, I8.untrying I.ok, r8, q8⟩
end L2
namespace L2
open PySem PySem.Spec PyProof.Rows PySem.W
theorem ns_uniq {h : Heap} {a : Addr} {m m' : Str → Option Value} (x : h.Ns a m) (y : h.Ns a m') : m = m' := by
  obtain ⟨o, es, ep, e, d, _, q⟩ := x
  obtain ⟨o', es', ep', e', d', _, q'⟩ := y
  rw [e] at e'; cases e'
  rw [d] at d'; cases d'
  funext z
  rw [← q z, q' z]
theorem Inv.fromK {X : Cx} {pins : List (Addr × Obj)} {σ : St} {H : Hp} {s : Shared} {h' : Heap} {m : Str → Option Value} {D : Addr} {o : HO} {t' : Nat} (I : Inv X pins σ H s) (F : Fr X.base X.env.locals s.heap m) (F' : Fr X.base X.env.locals h' m)
    (N' : News X.base X.env.locals h' (allNews X.base s.heap X.env.locals)) (hD : s.heap.get? D = none) (new : ObjOk X.prog X.w (upd H D o) h' D o) : Inv X pins σ (upd H D o) { s with heap := h', toks := t' } := by
  have hn := I.hok.freshN hD
  have ne : ∀ b u, s.heap.get? b = some u → b ≠ D := fun b u e z => by rw [z, hD] at e; cases e
  have keep : ∀ b u, b ≠ X.env.locals → s.heap.get? b = some u → h'.get? b = some u := fun b u hb e => by
    cases q : X.base.get? b with
    | some v =>
      have := I.bk b v q
      rw [e] at this; cases this
      exact F'.keep b _ q
    | none => exact (N' (b, u) (mem_allNews hb q e)).1
  refine I.step (g' := s.gens) (d' := s.drawn) (ch := []) (fun _ z => absurd z (by simp)) (fun b u hb _ _ e _ => keep b u hb e) (fun b u hb _ _ e _ => ⟨u.slots, keep b u hb e⟩) (fun b u _ e n => by rw [upd_ne (ne b u e)]; exact n) (fun b u _ e => ?_)
    (fun b xs e => by rw [upd_ne (ne_of_none e hn)]; exact e) (fun b u v e => by rw [upd_ne (ne_of_none e hn)]; exact e) (fun b ps e => ⟨#[], by rw [upd_ne (ne_of_none e hn), e]; simp⟩) (fun m1 hm => by rw [ns_uniq hm F.ns]; exact F'.ns) (fun b u e => ?_) I.bare
  · by_cases hb : b = X.env.locals
    · obtain ⟨o', _, _, q, _⟩ := F'.ns
      exact ⟨o', by rw [hb]; exact q⟩
    · exact ⟨u, keep b u hb e⟩
  · by_cases hb : b = D
    · subst hb; rw [upd_same] at e; cases e; exact new
    · rw [upd_ne hb] at e
      refine (I.hok b u e).stay (fun c v hc q => keep c v ?_ q) (fun c q => by rw [upd_ne (ne_of_none q hn)]; exact q) fun c xs q => by rw [upd_ne (ne_of_none q hn)]; exact q
      rintro rfl
      rcases hc with z | hc
      · have f := I.free; rw [z, e] at f; cases f
      · rw [I.free] at hc; cases hc
theorem fresh_of_news {X : Cx} {pins : List (Addr × Obj)} {σ : St} {H : Hp} {s : Shared} {h' : Heap} {D : Addr} {o : Obj} (I : Inv X pins σ H s) (N : News X.base X.env.locals h' ((D, o) :: allNews X.base s.heap X.env.locals)) (hlt : ∀ q ∈ allNews X.base s.heap X.env.locals, q.1 < D) : s.heap.get? D = none := by
  cases e : s.heap.get? D with
  | none => rfl
  | some u =>
    obtain ⟨_, n1, n2⟩ := N (D, o) List.mem_cons_self
    exact absurd (hlt (D, u) (mem_allNews n1 n2 e)) (Nat.lt_irrefl _)
end L2
namespace L2
open PySem PySem.Spec PyProof.Rows PySem.W
def PairAt (K : PySem.W.Frag) (H : Hp) (a : Addr) (y : Int × Int) : Prop := SqT K H a [.int y.1, .int y.2]
section
variable {X : Cx}
theorem pair_there {pins : List (Addr × Obj)} {σ : St} {H : Hp} {s : Shared} {a : Addr} {y : Int × Int} (I : Inv X pins σ H s) (h : PairAt X.K H a y) : ∃ o n t u, s.heap.get? a = some o ∧ o.cls = .type "tuple" ∧ o.data = .seq #[.int y.1 t, .int y.2 u] n := by
  obtain ⟨its, r, p, _⟩ := I.tuple h
  obtain ⟨u1, u2, rfl, r1, r2⟩ := r.two
  obtain ⟨t, rfl⟩ := r1
  obtain ⟨t', rfl⟩ := r2
  obtain ⟨o, e, c, n, d⟩ := p
  exact ⟨o, n, t, t', e, c, d⟩
end
end L2
namespace L2
open PySem PySem.Spec PyProof.Rows PySem.W
def hAt (hs : Array Int) (i : Nat) : Int := (hs[i]?).getD 0
def setStep (hs : Array Int) (t : SetTable) (h : Int) : Option (Array Int × SetTable) :=
  if t.gaveWay then none else
  match t.probe (hAt hs) h (t.probeStart h) with
  | some (.empty j none) =>
    let q := t.put j
    let hs1 := SetTable.insertAt hs q.2 h
    if q.1.fits hs1.size && decide (hs1.size ≤ 4096) then
      if q.1.tooFull then
        (match q.1.relaid hs1 (SetTable.grown (hs.size + 1)) with
        | some (t2, order) =>
          let hs2 := order.filterMap (hs1[·]?)
          if hs2.size == hs1.size && t2.fits hs2.size && decide (SetTable.sizeAbove (SetTable.grown (hs.size + 1)) ≤ 4096) then some (hs2, t2) else none
        | none => none)
      else some (hs1, q.1)
    else none
  | _ => none
def setRun (led : Bool) : List Int → Option (Array Int × SetTable) := fun l => l.foldlM (fun q h => setStep q.1 q.2 h) (#[], SetTable.fresh 0 0 led)
def SetAt (h : Heap) (S : Addr) (hs : Array Int) (t : SetTable) : Prop := ∃ o es ep, h.get? S = some o ∧ o.cls = .type "set" ∧ (o.dict = none ∧ o.slots = #[]) ∧ o.data = .set es ep t ∧ es.map (·.1) = hs ∧ t.fits es.size = true
section
variable {prog : Program} {w : World} {A : Around} {E : Value → Shared → Prop} {s : Shared} {S : Addr}
theorem hAt_eq (es : Array (Int × Value)) : (fun i => (es[i]?.map (·.1)).getD 0) = hAt (es.map (·.1)) := by
  funext i
  unfold hAt
  rw [Array.getElem?_map]
theorem insertAt_map (es : Array (Int × Value)) (p : Nat) (x : Int × Value) : (SetTable.insertAt es p x).map (·.1) = SetTable.insertAt (es.map (·.1)) p x.1 := by
  unfold SetTable.insertAt
  simp
theorem order_map (es : Array (Int × Value)) (order : Array Nat) : (order.filterMap (es[·]?)).map (·.1) = order.filterMap ((es.map (·.1))[·]?) := by
  apply Array.ext'
  rw [Array.toList_map, Array.toList_filterMap, Array.toList_filterMap, List.map_filterMap]
  congr 1
  funext i
  rw [Array.getElem?_map]
theorem set_search {hs : Array Int} {t : SetTable} {h : Int} {x : Value} {j : Nat} {Q : SetFound → Shared → Prop} (hS : SetAt s.heap S hs t) (hg : t.gaveWay = false) (hp : t.probe (hAt hs) h (t.probeStart h) = some (.empty j none)) (q : Q (.free j false) s) :
    wpAny (model prog w) A (setSearch S x h true) Q E s := by
  obtain ⟨o, es, ep, ho, hc, hdi, hd, hm, hf⟩ := hS
  unfold setSearch setSearchFrom
  refine wpAny_bind (wpAny_setState_of ho hd hf ?_)
  dsimp only
  rw [hg, if_neg Bool.false_ne_true]
  have hp' : t.probe (fun i => (es[i]?.map (·.1)).getD 0) h (t.probeStart h) = some (.empty j none) := by rw [hAt_eq, hm]; exact hp
  refine wpAny_bind (wpAny_pure ?_)
  erw [hp']
  exact wpAny_pure q
theorem hash_pair {a : Addr} {o : Obj} {n : Nat} {x y : Int} {t u : Tok} {Q : Bool → Shared → Prop} (ho : s.heap.get? a = some o) (hc : o.cls = .type "tuple") (hd : o.data = .seq #[.int x t, .int y u] n) (q : Q true s) :
    wpAny (model prog w) A (hashByValue 8 (.ref a)) Q E s := by
  have hT : s.TypeIs (.ref a) "tuple" := ⟨_, ho, hc⟩
  unfold hashByValue
  refine wpAny_bind (wpAny_specialOf hT PySem.F.slot_tuple_hash.lookup ?_)
  refine wpAny_bind (wpAny_seqItems ho hd ?_)
  refine wpAny_bind ?_
  show wpAny _ _ (forIn #[Value.int x t, Value.int y u] _ _) _ _ s
  rw [← Array.forIn_toList]
  refine wpAny_forIn_list _ (fun rest r s' => r.1 = none ∧ s' = s ∧ ∀ v ∈ rest, ∃ z k, v = Value.int z k) _ ?_ ?_ _ _ ⟨rfl, rfl, fun v hv => ?_⟩
  · rintro v rest r s' ⟨hr, rfl, hall⟩
    obtain ⟨z, k, rfl⟩ := hall v List.mem_cons_self
    refine wpAny_bind (wpAny_pure ?_)
    exact wpAny_pure ⟨rfl, rfl, fun u' hu' => hall u' (List.mem_cons_of_mem _ hu')⟩
  · rintro ⟨r1, r2⟩ s' ⟨hr, rfl, _⟩
    have hr' : r1 = none := hr
    subst hr'
    exact wpAny_pure q
  · rcases List.mem_cons.mp hv with z | z
    · exact ⟨_, _, z⟩
    · rcases List.mem_cons.mp z with z | z
      · exact ⟨_, _, z⟩
      · cases z
theorem set_put {hs : Array Int} {t t' : SetTable} {es' : Array (Int × Value)} (hS : SetAt s.heap S hs t) (hf : t'.fits es'.size = true) (hz : es'.size ≤ 4096) {Q : Unit → Shared → Prop}
    (q : ∀ h', Heap.SameBut S s.heap h' → SetAt h' S (es'.map (·.1)) t' → Q () { s with heap := h' }) : wpAny (model prog w) A (storeSet S es' t') Q E s := by
  obtain ⟨o, es, ep, ho, hc, hdi, hd, hm, _⟩ := hS
  refine wpAny_storeSet_of ho hd (q _ (Heap.SameBut.update s.heap S (Obj.putSet es' t')) ?_) (Nat.le_trans hz (by decide))
  have g := Heap.get?_update_self (Obj.putSet es' t') ho (by rw [putSet_of es' t' hd]; rfl)
  rw [putSet_of es' t' hd] at g
  exact ⟨_, es', ep + 1, g, hc, hdi, rfl, rfl, hf⟩
theorem set_add {hs hs' : Array Int} {t t' : SetTable} {a : Addr} {o : Obj} {n : Nat} {x y : Int} {tx ty : Tok} {Q : Bool → Shared → Prop} (hu : A.units < cLine) (hS : SetAt s.heap S hs t) (ho : s.heap.get? a = some o) (hc : o.cls = .type "tuple") (hd : o.data = .seq #[.int x tx, .int y ty] n) (hne : a ≠ S)
    (hst : setStep hs t (tupleKeyHash (intKind prog w) [x, y]) = some (hs', t')) (q : ∀ h' tk, Heap.SameBut S s.heap h' → SetAt h' S hs' t' → Q true { s with heap := h', toks := tk }) : wpAny (model prog w) A (setAdd S (.ref a)) Q E s := by
  have hk : IsTupleKey (intKind prog w) s.heap [x, y] a := ⟨o, _, n, ho, hc, hd, .cons (intKind_is _ _ _ _) (.cons (intKind_is _ _ _ _) .nil)⟩
  unfold setAdd
  refine wpAny_holding (wpAny_bind (wpAny_pyHash_tuple hu hk ?_))
  generalize htk : s.toks + ([x, y].length + 1) = tk
  generalize hh : tupleKeyHash (intKind prog w) [x, y] = h at hst ⊢
  have hS0 := hS
  obtain ⟨ob, es, ep, hb, hbc, hbd, hbe, hm, hf⟩ := hS
  unfold setAddHashed setAddHashedIn
  refine wpAny_holding (wpAny_bind (wpAny_setState_of (s := { s with toks := tk }) hb hbe hf ?_))
  dsimp only
  have hbs : byScan (.ref a) es = false := by unfold byScan; rfl
  rw [hbs, if_neg Bool.false_ne_true]
  unfold setStep at hst
  cases hg : t.gaveWay with
  | true => rw [hg, if_pos rfl] at hst; cases hst
  | false =>
    rw [hg, if_neg Bool.false_ne_true] at hst
    split at hst
    · rename_i j hp
      dsimp only at hst
      split at hst
      · rename_i hfz
        rw [Bool.and_eq_true, decide_eq_true_eq] at hfz
        refine wpAny_bind (set_search (s := { s with toks := tk }) hS0 hg hp ?_)
        dsimp only
        refine wpAny_bind (wpAny_setState_of (s := { s with toks := tk }) hb hbe hf ?_)
        dsimp only
        have byv : ∀ {kk : Bool → Sem Bool}, wpAny (model prog w) A (kk true) Q E { s with toks := tk } → wpAny (model prog w) A (if (t.put j).1.plain = true then hashByValue 8 (.ref a) >>= kk else pure true >>= kk) Q E { s with toks := tk } := fun {kk} hP => by
          split
          · exact wpAny_bind (hash_pair (s := { s with toks := tk }) ho hc hd hP)
          · exact wpAny_bind (wpAny_pure hP)
        refine byv ?_
        simp only [if_true]
        have hsz : (SetTable.insertAt es (t.put j).2 (h, Value.ref a)).size = (SetTable.insertAt hs (t.put j).2 h).size := by
          rw [← hm, ← insertAt_map es (t.put j).2 (h, Value.ref a), Array.size_map]
        refine wpAny_bind (set_put (s := { s with toks := tk }) hS0 (by rw [hsz]; exact hfz.1) (by rw [hsz]; exact hfz.2) fun h1 sb1 S1 => ?_)
        rw [insertAt_map, hm] at S1
        split at hst
        · rename_i htf
          rw [show (!false && (t.put j).1.tooFull) = true by rw [htf]; rfl, if_pos rfl]
          split at hst
          · rename_i t2 order hr
            split at hst
            · rename_i hq
              rw [Bool.and_eq_true, Bool.and_eq_true, decide_eq_true_eq, beq_iff_eq] at hq
              obtain ⟨⟨hq1, hq2⟩, hq3⟩ := hq
              cases hst
              have hes : es.size = hs.size := by rw [← hm, Array.size_map]
              refine wpAny_bind ?_
              unfold setRelay
              obtain ⟨o1, es1, ep1, g1, g2, g3, g4, g5, g6⟩ := id S1
              refine wpAny_bind (wpAny_setState_of (s := { s with heap := h1, toks := tk }) g1 g4 g6 ?_)
              dsimp only
              rw [hes]
              rw [if_neg (by have h4 : (4096 : Nat) ≤ sizeLine := by decide
                             omega)]
              refine wpAny_bind ?_
              rw [g5, hr]
              have hsz2 : (order.filterMap (es1[·]?)).size = es1.size := by
                have e1 := congrArg Array.size (order_map es1 order)
                rw [Array.size_map, g5] at e1
                rw [e1, hq1, ← g5, Array.size_map]
              refine wpAny_of_eq (show _ = (pure (order.filterMap (es1[·]?), t') : Sem (Array (Int × Value) × SetTable)) from ?_) ?_
              · show (do
                  let es' := order.filterMap (es1[·]?)
                  if es'.size != es1.size then unsupported "internal:set-table-lost-an-element"
                  pure (es', t') : Sem (Array (Int × Value) × SetTable)) = _
                simp [hsz2]
              dsimp only
              have hle : es1.size ≤ 4096 := by
                have e1 := congrArg Array.size g5
                rw [Array.size_map] at e1
                rw [e1]
                exact hfz.2
              have hfm : (order.filterMap (es1[·]?)).size = (order.filterMap ((SetTable.insertAt hs (t.put j).2 h)[·]?)).size := by
                have e1 := congrArg Array.size (order_map es1 order)
                rw [Array.size_map, g5] at e1
                exact e1
              refine set_put (s := { s with heap := h1, toks := tk }) S1 (by rw [hfm]; exact hq2) (by rw [hsz2]; exact hle) fun h2 sb2 S2 => ?_
              rw [order_map, g5] at S2
              exact wpAny_pure (q h2 tk (sb1.trans sb2) S2)
            · cases hst
          · cases hst
        · rename_i htf
          cases hst
          have htf' : (t.put j).1.tooFull = false := by simpa using htf
          rw [show (!false && (t.put j).1.tooFull) = false by rw [htf']; rfl, if_neg Bool.false_ne_true]
          exact wpAny_pure (q h1 tk sb1 S1)
      · cases hst
    · cases hst
end
end L2
namespace L2
open PySem PySem.Spec PyProof.Rows PySem.W
section
variable {prog : Program} {w : World} {A : Around} {E : Value → Shared → Prop} {s : Shared} {S Ia l : Addr} {R : Result → Shared → Prop}
def PairsIn (h : Heap) (vs : List Value) (ys : List (Int × Int)) : Prop := vs.length = ys.length ∧ ∀ i v, vs[i]? = some v → ∃ a o n t u, v = .ref a ∧ h.get? a = some o ∧ o.cls = .type "tuple" ∧ o.data = .seq #[.int (ys.getD i (0, 0)).1 t, .int (ys.getD i (0, 0)).2 u] n
theorem PairsIn.keeps {h h' : Heap} {vs : List Value} {ys : List (Int × Int)} (p : PairsIn h vs ys) (k : ∀ b o, (∃ xs n, o.data = .seq xs n) → h.get? b = some o → h'.get? b = some o) : PairsIn h' vs ys :=
  ⟨p.1, fun i v e => let ⟨a, o, n, t, u, e1, e2, c, d⟩ := p.2 i v e; ⟨a, o, n, t, u, e1, k a o ⟨_, _, d⟩ e2, c, d⟩⟩
def pairHash (prog : Program) (w : World) (y : Int × Int) : Int := tupleKeyHash (intKind prog w) [y.1, y.2]
theorem set_loop {vs : List Value} {ys : List (Int × Int)} {hsN : Array Int} {tN : SetTable} (hh : A.handled = none) (hu : A.units + 1 < cLine) (hlS : l ≠ S) (hlI : l ≠ Ia) (hSI : S ≠ Ia) :
    ∀ (k i : Nat) (s : Shared) (hs : Array Int) (t : SetTable), vs.length - i = k → i ≤ vs.length → s.heap.IsListIter Ia l i → s.heap.IsList l vs.toArray → PairsIn s.heap vs ys → SetAt s.heap S hs t →
      ((ys.drop i).map (pairHash prog w)).foldlM (fun q h => setStep q.1 q.2 h) (hs, t) = some (hsN, tN) →
      (∀ h' tk, (∀ b o, b ≠ S → b ≠ Ia → s.heap.get? b = some o → h'.get? b = some o) → SetAt h' S hsN tN → R (.ok (.ret .none)) { s with heap := h', toks := tk }) →
      codeAny (model prog w) A (.builtin "set.update.loop" ⟨[.ref S, .ref Ia], []⟩) R s := by
  intro k
  induction k with
  | zero =>
    intro i s hs t hk hi hit hl hp hS hf hR
    have e : i = vs.length := by omega
    refine codeAny_builtin PyProof.Rows.F.entry_set_update_loop ?_
    rw [Around.under_plainId PyProof.Rows.F.plain_set_update_loop _]
    show wpAny _ A.in1 (pyNext (.ref Ia) >>= _) _ _ s
    refine wpAny_bind (wpAny_pyNext_list_end (show A.in1.handled = none from hh) hit hl (by simp; omega) fun h' eb => ?_)
    show wpAny _ A.in1 (ret Value.none) _ _ _
    have hd : ys.drop i = [] := by rw [List.drop_eq_nil_iff]; have := hp.1; omega
    rw [hd] at hf
    cases hf
    obtain ⟨o, es, ep, q1, q2⟩ := hS
    exact wpAny_pure (hR h' s.toks (fun b o hb hbI e => eb b o hbI e) ⟨o, es, ep, eb S o hSI q1, q2⟩)
  | succ k ih =>
    intro i s hs t hk hi hit hl hp hS hf hR
    have hlt : i < vs.length := by omega
    refine codeAny_builtin PyProof.Rows.F.entry_set_update_loop ?_
    rw [Around.under_plainId PyProof.Rows.F.plain_set_update_loop _]
    show wpAny _ A.in1 (pyNext (.ref Ia) >>= _) _ _ s
    have hv : vs[i]? = some vs[i] := List.getElem?_eq_getElem hlt
    refine wpAny_bind (wpAny_pyNext_list_item hit hl (x := vs[i]) (by simpa using hv) fun h1 hit1 sb1 => ?_)
    obtain ⟨a, o, n, tx, ty, ea, eo, ec, ed⟩ := hp.2 i _ hv
    rw [ea]
    have neI : ∀ b ob, (∃ xs n, ob.data = .seq xs n) → s.heap.get? b = some ob → b ≠ Ia := fun b ob ⟨xs, m, z⟩ e z' => by
      obtain ⟨oi, e1, _, d1⟩ := hit
      rw [z', e1] at e; cases e
      rw [d1] at z; cases z
    have hp1 : PairsIn h1 vs ys := hp.keeps fun b ob hb e => (sb1.2 b (neI b ob hb e)).trans e
    have hS1 : SetAt h1 S hs t := by
      obtain ⟨oS, es, ep, q1, q2⟩ := hS
      exact ⟨oS, es, ep, (sb1.2 S hSI).trans q1, q2⟩
    have hl1 : h1.IsList l vs.toArray := by
      obtain ⟨ol, q1, q2⟩ := hl
      exact ⟨ol, (sb1.2 l hlI).trans q1, q2⟩
    have eo1 : h1.get? a = some o := (sb1.2 a (neI a o ⟨_, _, ed⟩ eo)).trans eo
    have neS : ∀ b ob, (∃ xs n, ob.data = .seq xs n) → h1.get? b = some ob → b ≠ S := fun b ob ⟨xs, m, z⟩ e z' => by
      obtain ⟨oS, es, ep, q1, _, _, q4, _⟩ := hS1
      rw [z', q1] at e; cases e
      rw [q4] at z; cases z
    have hi2 : i < ys.length := by have := hp.1; omega
    have hdr : ys.drop i = ys[i] :: ys.drop (i + 1) := List.drop_eq_getElem_cons hi2
    have hgy : ys.getD i (0, 0) = ys[i] := by rw [List.getD_eq_getElem?_getD, List.getElem?_eq_getElem hi2]; rfl
    rw [hdr, List.map_cons, List.foldlM_cons] at hf
    cases hst : setStep hs t (pairHash prog w ys[i]) with
    | none => rw [hst] at hf; cases hf
    | some q =>
      obtain ⟨hs2, t2⟩ := q
      rw [hst] at hf
      have hf2 : ((ys.drop (i + 1)).map (pairHash prog w)).foldlM (fun q h => setStep q.1 q.2 h) (hs2, t2) = some (hsN, tN) := hf
      show wpAny _ A.in1 (holding [Value.ref a] (setAdd S (.ref a)) >>= _) _ _ _
      refine wpAny_bind (wpAny_holding (set_add (s := { s with heap := h1 }) (by show A.units + 1 < cLine; exact hu) hS1 eo1 ec ed (neS a o ⟨_, _, ed⟩ eo1) (hs' := hs2) (t' := t2) (by rw [hgy]; exact hst) fun h2 tk sb2 S2 => ?_))
      refine wpAny_pure ⟨plainId_quiet PyProof.Rows.F.plain_set_update_loop _, ?_⟩
      refine ih (i + 1) { s with heap := h2, toks := tk } hs2 t2 (by omega) hlt ?_ ?_ (hp1.keeps fun b ob hb e => (sb2.2 b (neS b ob hb e)).trans e) S2 hf2 fun h3 tk3 k3 S3 => ?_
      · obtain ⟨oi, q1, q2⟩ := hit1
        exact ⟨oi, (sb2.2 Ia (Ne.symm hSI)).trans q1, q2⟩
      · obtain ⟨ol, q1, q2⟩ := hl1
        exact ⟨ol, (sb2.2 l hlS).trans q1, q2⟩
      · exact hR h3 tk3 (fun b ob hb hbI e => k3 b ob hb hbI ((sb2.2 b hb).trans ((sb1.2 b hbI).trans e))) S3
theorem set_call {vs : List Value} {ys : List (Int × Int)} {hsN : Bool → Array Int} {tN : Bool → SetTable} {Q : Value → Shared → Prop} (hh : A.handled = none) (hu : A.units + 8 < cLine) (hl : s.heap.IsList l vs.toArray) (hp : PairsIn s.heap vs ys)
    (hrun : ∀ led, setRun led (ys.map (pairHash prog w)) = some (hsN led, tN led))
    (h : ∀ (led : Bool) (h' : Heap) (tk : Nat), SetAt h' s.heap.objs.size (hsN led) (tN led) → (∀ b o, b < s.heap.objs.size → s.heap.get? b = some o → h'.get? b = some o) → Q (.ref s.heap.objs.size) { s with heap := h', toks := tk }) :
    wpAny (model prog w) A (call (.type "set") [.ref l]) Q E s := by
  obtain ⟨c, tl, hmro⟩ := PySem.F.called_set.mro
  have c1 := PySem.F.called_set.made
  have c2 := PySem.F.called_set.sub
  refine wpAny_call (codeAny_of_tree ?_)
  show wpAny _ _ (callAny (.type "set") _) _ _ _
  refine wpAny_pure ⟨Code.quiet_builtin _ (by decide +kernel), codeAny_builtin PySem.F.entry_type_call ?_⟩
  rw [Around.under_plain (weight_type_call_type "set" [.ref l] []) rfl]
  have c3 := PySem.F.called_set.notType
  have c4 := PySem.F.called_set.canCreate
  have c5 := PySem.F.typeCall_set_1 (.ref l)
  repeat (any_goals (first | assumption | wp_step))
  refine codeAny_mono (code_set_new_1 (.ref l) (E := E) (Q₁ := fun obj s₁ => ∃ led : Bool, obj = .ref s.heap.objs.size ∧ s₁ = { s with heap := s.heap.push { cls := .type "set", dict := none, data := .set #[] 0 (.fresh 0 0 led) } }) fun led => ⟨led, rfl, rfl⟩) fun r s₁ hr => ?_
  cases r with
  | error e => exact hr
  | ok fl =>
    cases fl with
    | next => exact hr.elim
    | brk => exact hr.elim
    | cont => exact hr.elim
    | ret obj =>
      obtain ⟨led, rfl, rfl⟩ := hr
      generalize hpu : s.heap.push { cls := .type "set", dict := none, data := .set #[] 0 (.fresh 0 0 led) } = hS
      have hsz : hS.objs.size = s.heap.objs.size + 1 := by rw [← hpu, Heap.size_push]
      have gS : hS.get? s.heap.objs.size = some { cls := .type "set", dict := none, data := .set #[] 0 (.fresh 0 0 led) } := by rw [← hpu]; exact Heap.get?_push_size _ rfl
      have up : ∀ b o, s.heap.get? b = some o → hS.get? b = some o := fun b o e => by rw [← hpu]; exact Heap.get?_push_of_some _ e
      have hT : Shared.TypeIs { s with heap := hS } (.ref s.heap.objs.size) "set" := ⟨_, gS, rfl⟩
      have c6 := PySem.F.called_set.init.lookup
      have c7 := PySem.F.called_set.init.bind (.ref s.heap.objs.size)
      repeat (any_goals (first | assumption | wp_step))
      refine codeAny_mono (codeAny_call_builtin (R := wants (fun r s₂ => r = .none ∧ ∃ h' tk, s₂ = { s with heap := h', toks := tk } ∧ SetAt h' s.heap.objs.size (hsN led) (tN led) ∧
          (∀ b o, b < s.heap.objs.size → s.heap.get? b = some o → h'.get? b = some o)) E) PySem.F.called_set.init.plain PySem.F.entry_set_init (check_set_init_1 hT ?_)) fun r₂ s₂ hr₂ => ?_
      · obtain ⟨ol, hol, hcl, nl, hdl⟩ := hl
        obtain ⟨ocls, odict, odata, oslots⟩ := ol
        simp only at hcl hdl
        subst hcl; subst hdl
        have hol' := up _ _ hol
        have c8 := PySem.F.sub_list_set
        have c9 := PySem.F.sub_list_frozenset
        have c10 : (Value.type "list" == Value.type "dict") = false := by decide
        have hl1 : hS.IsList l vs.toArray := ⟨_, hol', rfl, nl, rfl⟩
        unfold Builtin.«set.__init__» noKeywords Builtin.Frozenset.updateFrom
        generalize hPI : pyIter = PI
        wp_walk
        subst hPI
        refine wpAny_pyIter_list hl1 ?_
        refine wpAny_bind (wpAny_runValue ?_)
        have hlt : l < s.heap.objs.size := Heap.lt_size hol
        refine set_loop (l := l) (vs := vs) (ys := ys) (hsN := hsN led) (tN := tN led) (by simp [hh]) (by simp; omega) (Nat.ne_of_lt hlt) (by rw [hsz]; exact Nat.ne_of_lt (Nat.lt_succ_of_lt hlt)) (by rw [hsz]; exact Nat.ne_of_lt (Nat.lt_succ_self _))
          (vs.length - 0) 0 _ #[] (.fresh 0 0 led) rfl (Nat.zero_le _) ⟨_, Heap.get?_push_size _ rfl, rfl, rfl⟩ (hl1.push _) (hp.keeps fun b o _ e => Heap.get?_push_of_some _ (up b o e)) ⟨_, #[], 0, Heap.get?_push_of_some _ gS, rfl, ⟨rfl, rfl⟩, rfl, by simp, rfl⟩ (hrun led) fun h' tk k S' => ?_
        show wpAny _ _ _ _ _ _
        refine wpAny_pure ?_
        show wpAny _ _ (ret Value.none) _ _ _
        refine wpAny_pure ⟨rfl, h', tk, rfl, S', fun b o hb e => ?_⟩
        exact k b o (Nat.ne_of_lt hb) (by rw [hsz]; exact Nat.ne_of_lt (Nat.lt_succ_of_lt hb)) (Heap.get?_push_of_some _ (up b o e))
      · cases r₂ with
        | error e => exact hr₂
        | ok fl₂ =>
          cases fl₂ with
          | next => exact hr₂.elim
          | brk => exact hr₂.elim
          | cont => exact hr₂.elim
          | ret r =>
            obtain ⟨rfl, h', tk, rfl, S', k⟩ := hr₂
            repeat (any_goals (first | assumption | wp_step))
            exact h led h' tk S' k
end
end L2
namespace L2
open PySem
def bitsOf (l : List Nat) : Nat := l.foldl (fun a x => a ||| (1 <<< x)) 0
theorem bitsOf_go (l : List Nat) (a j : Nat) : (l.foldl (fun a x => a ||| (1 <<< x)) a).testBit j = (a.testBit j || l.contains j) := by
  induction l generalizing a with
  | nil => simp
  | cons x xs ih =>
    rw [List.foldl_cons, ih, Nat.testBit_or, List.contains_cons]
    have : (1 <<< x).testBit j = (j == x) := by
      rw [Nat.one_shiftLeft, Nat.testBit_two_pow]
      by_cases h : x = j
      · simp [h]
      · have h' : ¬ j = x := fun e => h e.symm
        simp [h, h']
    rw [this, Bool.or_assoc]
theorem mem_of_bits {l : List Nat} {n j : Nat} (h : bitsOf l = 2 ^ n - 1) (hj : j < n) : j ∈ l := by
  have e := bitsOf_go l 0 j
  have h' : l.foldl (fun a x => a ||| (1 <<< x)) 0 = 2 ^ n - 1 := h
  rw [h', Nat.testBit_two_pow_sub_one] at e
  simp [hj] at e
  exact e
def orb (M : Nat) : Nat → Nat → Nat
  | 0, i => i
  | n + 1, i => orb M n ((i * 5 + 1) % M)
theorem orb_add (M a : Nat) : ∀ b i, orb M (b + a) i = orb M a (orb M b i)
  | 0, i => by rw [Nat.zero_add]; rfl
  | b + 1, i => by
    rw [show b + 1 + a = (b + a) + 1 by omega]
    show orb M (b + a) _ = orb M a (orb M b _)
    exact orb_add M a b _
def orbL (M : Nat) : Nat → Nat → List Nat
  | 0, _ => []
  | n + 1, i => i :: orbL M n ((i * 5 + 1) % M)
theorem orbL_mem {M j : Nat} : ∀ {n i}, j ∈ orbL M n i → ∃ k, k < n ∧ orb M k i = j
  | 0, _, h => by cases h
  | n + 1, i, h => by
    rcases List.mem_cons.mp h with z | z
    · exact ⟨0, by omega, z.symm⟩
    · obtain ⟨k, a, b⟩ := orbL_mem z
      exact ⟨k + 1, by omega, b⟩
structure Rnd (M : Nat) : Prop where
  all : bitsOf (orbL M M 0) = 2 ^ M - 1
  back : orb M M 0 = 0
theorem rnd8 : Rnd 8 := ⟨by decide +kernel, by decide +kernel⟩
theorem rnd32 : Rnd 32 := ⟨by decide +kernel, by decide +kernel⟩
theorem rnd128 : Rnd 128 := ⟨by decide +kernel, by decide +kernel⟩
theorem rnd512 : Rnd 512 := ⟨by decide +kernel, by decide +kernel⟩
theorem Rnd.cover {M : Nat} (R : Rnd M) {i j : Nat} (hi : i < M) (hj : j < M) : ∃ n, n < M ∧ orb M n i = j := by
  obtain ⟨a, ha, ea⟩ := orbL_mem (mem_of_bits R.all hi)
  obtain ⟨b, hb, eb⟩ := orbL_mem (mem_of_bits R.all hj)
  by_cases h : a ≤ b
  · refine ⟨b - a, by omega, ?_⟩
    rw [← ea, ← orb_add, show a + (b - a) = b by omega, eb]
  · refine ⟨M + b - a, by omega, ?_⟩
    rw [← ea, ← orb_add, show a + (M + b - a) = M + b by omega, orb_add, R.back, eb]
def leaps (mask : Nat) : Nat → Nat × Nat → Nat × Nat
  | 0, q => q
  | n + 1, q => leaps mask n (SetTable.leap mask q.1 q.2)
theorem leaps_add (m a : Nat) : ∀ b q, leaps m (b + a) q = leaps m a (leaps m b q)
  | 0, q => by rw [Nat.zero_add]; rfl
  | b + 1, q => by
    rw [show b + 1 + a = (b + a) + 1 by omega]
    exact leaps_add m a b _
theorem leaps_lt {m : Nat} : ∀ {n : Nat} {q : Nat × Nat}, q.1 < m + 1 → (leaps m n q).1 < m + 1
  | 0, _, h => h
  | n + 1, q, h => leaps_lt (n := n) (Nat.mod_lt _ (Nat.succ_pos _))
theorem leaps_p {m : Nat} : ∀ {n : Nat} {q : Nat × Nat}, (leaps m n q).2 = q.2 / 32 ^ n
  | 0, _ => by simp [leaps]
  | n + 1, q => by
    show (leaps m n _).2 = _
    rw [leaps_p]
    show q.2 / 32 / 32 ^ n = _
    rw [Nat.div_div_eq_div_mul, Nat.pow_succ, Nat.mul_comm]
theorem leaps_orb {m : Nat} : ∀ {n i : Nat}, leaps m n (i, 0) = (orb (m + 1) n i, 0)
  | 0, _ => rfl
  | n + 1, i => by
    show leaps m n (SetTable.leap m i 0) = _
    unfold SetTable.leap
    simp only [Nat.zero_div, Nat.add_zero]
    exact leaps_orb
theorem leaps_cover {m : Nat} (R : Rnd (m + 1)) {i p j : Nat} (hi : i < m + 1) (hp : p < 2 ^ 64) (hj : j < m + 1) : ∃ n, n < m + 14 ∧ (leaps m n (i, p)).1 = j := by
  have h1 := leaps_lt (m := m) (n := 13) (q := (i, p)) hi
  have h2 : (leaps m 13 (i, p)).2 = 0 := by
    rw [leaps_p]
    exact Nat.div_eq_of_lt (Nat.lt_of_lt_of_le hp (by decide))
  obtain ⟨n, hn, e⟩ := R.cover h1 hj
  refine ⟨13 + n, by omega, ?_⟩
  rw [leaps_add]
  have : leaps m 13 (i, p) = ((leaps m 13 (i, p)).1, 0) := Prod.ext rfl h2
  rw [this, leaps_orb]
  exact e
theorem bits_lt (h : Int) : SetTable.bits h < 2 ^ 64 := by
  unfold SetTable.bits
  have a := Int.emod_nonneg h (show (2 ^ 64 : Int) ≠ 0 by decide)
  have b := Int.emod_lt_of_pos h (show (0 : Int) < 2 ^ 64 by decide)
  omega
theorem lacks {M : Nat} {l : List Nat} (h : l.length < M) : ∃ j, j < M ∧ j ∉ l := by
  have key : ∀ (a b : List Nat), a.Nodup → (∀ x ∈ a, x ∈ b) → a.length ≤ b.length := by
    intro a
    induction a with
    | nil => intro b _ _; exact Nat.zero_le _
    | cons x xs ih =>
      intro b hn hs
      obtain ⟨h1, h2⟩ := List.nodup_cons.mp hn
      have hx : x ∈ b := hs x List.mem_cons_self
      have := ih (b.erase x) h2 fun y hy => (List.mem_erase_of_ne (fun (e : y = x) => h1 (e ▸ hy))).mpr (hs y (List.mem_cons_of_mem _ hy))
      rw [List.length_erase_of_mem hx] at this
      have : 0 < b.length := List.length_pos_of_mem hx
      rw [List.length_cons]
      omega
  apply Classical.byContradiction
  intro hno
  have := key (List.range M) l List.nodup_range fun x hx => Classical.byContradiction fun hx' => hno ⟨x, List.mem_range.mp hx, hx'⟩
  rw [List.length_range] at this
  omega
def baseAt (mask i p : Nat) : SetTable.Probe := { j := i, more := SetTable.runEnd mask i - i, i := i, perturb := p, dummy := none }
theorem run_le (mask i : Nat) : SetTable.runEnd mask i - i ≤ 9 := by unfold SetTable.runEnd; split <;> omega
theorem slot_of {t : SetTable} (hd : t.dummies = #[]) (j : Nat) : t.slot j = .empty ∨ ∃ i, t.slot j = .live i ∧ t.place[i]? = some j := by
  unfold SetTable.slot
  dsimp only
  split
  · rename_i h
    exact .inr ⟨_, rfl, by simpa using h⟩
  · left
    rw [hd]
    rfl
theorem slot_empty {t : SetTable} (hd : t.dummies = #[]) {j : Nat} (h : j ∉ t.place.toList) : t.slot j = .empty := by
  rcases slot_of hd j with e | ⟨i, _, e2⟩
  · exact e
  · exact absurd (by rw [← Array.getElem?_toList] at e2; exact List.mem_of_getElem? e2) h
section
variable {t : SetTable} {hashAt : Nat → Int} {h : Int}
theorem go_run (hd : t.dummies = #[]) (hh : ∀ i, i < t.place.size → hashAt i ≠ h) (i p : Nat) : ∀ (r : Nat) (j fuel : Nat),
    (∃ j', SetTable.probe.go t hashAt h (fuel + r + 1) { j := j, more := r, i := i, perturb := p, dummy := none } = some (.empty j' none)) ∨
    SetTable.probe.go t hashAt h (fuel + r + 1) { j := j, more := r, i := i, perturb := p, dummy := none } = SetTable.probe.go t hashAt h fuel (baseAt t.mask (SetTable.leap t.mask i p).1 (SetTable.leap t.mask i p).2)
  | 0, j, fuel => by
    rcases slot_of hd j with e | ⟨k, e, e2⟩
    · exact .inl ⟨j, by unfold SetTable.probe.go; rw [e]⟩
    · right
      have hk : k < t.place.size := (Array.getElem?_eq_some_iff.mp e2).1
      conv => lhs; unfold SetTable.probe.go
      rw [e]
      simp only [beq_iff_eq, hh k hk, if_false]
      rfl
  | r + 1, j, fuel => by
    rcases slot_of hd j with e | ⟨k, e, e2⟩
    · exact .inl ⟨j, by rw [show fuel + (r + 1) + 1 = (fuel + r + 1) + 1 by omega]; unfold SetTable.probe.go; rw [e]⟩
    · have hk : k < t.place.size := (Array.getElem?_eq_some_iff.mp e2).1
      have st : SetTable.probe.go t hashAt h (fuel + (r + 1) + 1) { j := j, more := r + 1, i := i, perturb := p, dummy := none } = SetTable.probe.go t hashAt h (fuel + r + 1) { j := j + 1, more := r, i := i, perturb := p, dummy := none } := by
        rw [show fuel + (r + 1) + 1 = (fuel + r + 1) + 1 by omega]
        conv => lhs; unfold SetTable.probe.go
        rw [e]
        simp only [beq_iff_eq, hh k hk, if_false]
        rfl
      rw [st]
      exact go_run hd hh i p r (j + 1) fuel
theorem go_base (hd : t.dummies = #[]) (hh : ∀ i, i < t.place.size → hashAt i ≠ h) : ∀ (m : Nat) (i p fuel : Nat), 10 * (m + 1) ≤ fuel → t.slot (leaps t.mask m (i, p)).1 = .empty →
    ∃ j', SetTable.probe.go t hashAt h fuel (baseAt t.mask i p) = some (.empty j' none)
  | 0, i, p, fuel, hf, e => by
    obtain ⟨f, rfl⟩ : ∃ f, fuel = f + 1 := ⟨fuel - 1, by omega⟩
    refine ⟨i, ?_⟩
    have e' : t.slot i = .empty := e
    unfold SetTable.probe.go baseAt
    dsimp only
    rw [e']
  | m + 1, i, p, fuel, hf, e => by
    have hr := run_le t.mask i
    obtain ⟨f, hf'⟩ : ∃ f, fuel = f + (SetTable.runEnd t.mask i - i) + 1 := ⟨fuel - (SetTable.runEnd t.mask i - i) - 1, by omega⟩
    rcases go_run (hashAt := hashAt) (h := h) hd hh i p (SetTable.runEnd t.mask i - i) i f with z | z
    · rw [hf']; exact z
    · rw [hf']
      show ∃ j', SetTable.probe.go t hashAt h _ { j := i, more := _, i := i, perturb := p, dummy := none } = _
      rw [z]
      exact go_base hd hh m _ _ f (by omega) e
theorem probe_free (R : Rnd (t.mask + 1)) (hd : t.dummies = #[]) (hs : t.place.size ≤ t.mask) (hh : ∀ i, i < t.place.size → hashAt i ≠ h) : ∃ j, t.probe hashAt h (t.probeStart h) = some (.empty j none) := by
  obtain ⟨j, hj, hn⟩ := lacks (M := t.mask + 1) (l := t.place.toList) (by simpa using Nat.lt_succ_of_le hs)
  obtain ⟨m, hm, e⟩ := leaps_cover R (Nat.mod_lt (SetTable.bits h) (Nat.succ_pos t.mask)) (bits_lt h) hj
  refine go_base hd hh m _ _ _ ?_ (by rw [e]; exact slot_empty hd hn)
  unfold SetTable.turns
  omega
end
theorem fm_len {α β : Type} {f : α → Option β} : ∀ {l : List α}, (∀ q ∈ l, (f q).isSome = true) → (l.filterMap f).length = l.length
  | [], _ => rfl
  | q :: l, h => by
    have hq := h q List.mem_cons_self
    cases e : f q with
    | none => rw [e] at hq; cases hq
    | some b => rw [List.filterMap_cons_some e, List.length_cons, List.length_cons, fm_len fun x hx => h x (List.mem_cons_of_mem _ hx)]
theorem free_some {mask : Nat} {owner : Array (Option Nat)} : ∀ (m fuel i p : Nat), m < fuel → owner.getD (leaps mask m (i, p)).1 (some 0) = none → ∃ j, SetTable.layClean.free mask owner fuel i p = some j ∧ owner.getD j (some 0) = none
  | m, 0, _, _, h, _ => by omega
  | m, fuel + 1, i, p, h, e => by
    unfold SetTable.layClean.free
    cases hf : (List.range (SetTable.runEnd mask i + 1 - i)).find? fun k => (owner.getD (i + k) (some 0)).isNone with
    | some k =>
      refine ⟨i + k, rfl, ?_⟩
      have := List.find?_some hf
      simpa using this
    | none =>
      cases m with
      | zero =>
        have h0 : (0 : Nat) ∈ List.range (SetTable.runEnd mask i + 1 - i) := List.mem_range.mpr (by unfold SetTable.runEnd; split <;> omega)
        have := List.find?_eq_none.mp hf 0 h0
        have e' : owner.getD i (some 0) = none := e
        rw [Nat.add_zero, e'] at this
        exact absurd rfl this
      | succ m =>
        exact free_some m fuel _ _ (by omega) e
structure Laid (M : Nat) (owner : Array (Option Nat)) (k : Nat) : Prop where
  size : owner.size = M
  cnt : owner.toList.countP Option.isSome = k
  lt : ∀ x, some x ∈ owner.toList → x < k
theorem countP_set {l : List (Option Nat)} {j : Nat} {x : Nat} (hj : l[j]? = some none) : (l.set j (some x)).countP Option.isSome = l.countP Option.isSome + 1 := by
  induction l generalizing j with
  | nil => cases hj
  | cons a l ih =>
    cases j with
    | zero =>
      obtain rfl : a = none := by simpa using hj
      simp
    | succ j =>
      rw [List.set_cons_succ, List.countP_cons, List.countP_cons, ih (by simpa using hj)]
      omega
theorem Laid.one {mask : Nat} {owner : Array (Option Nat)} {k : Nat} (L : Laid (mask + 1) owner k) (R : Rnd (mask + 1)) (hk : k < mask + 1) (h : Int) :
    ∃ j, SetTable.layClean.free mask owner (SetTable.turns mask) (SetTable.bits h % (mask + 1)) (SetTable.bits h) = some j ∧ Laid (mask + 1) (owner.setIfInBounds j (some k)) (k + 1) := by
  have hno : ∃ j, j < mask + 1 ∧ owner.toList[j]? = some none := by
    apply Classical.byContradiction
    intro hno
    have hall : ∀ x ∈ owner.toList, x.isSome = true := by
      intro x hx
      obtain ⟨j, hj, e⟩ := List.mem_iff_getElem.mp hx
      cases x with
      | some _ => rfl
      | none =>
        refine absurd ⟨j, ?_, ?_⟩ hno
        · rw [← L.size]; simpa using hj
        · rw [List.getElem?_eq_getElem hj, e]
    have := List.countP_eq_length.mpr hall
    rw [L.cnt, Array.length_toList, L.size] at this
    omega
  obtain ⟨j0, hj0, e0⟩ := hno
  obtain ⟨m, hm, em⟩ := leaps_cover R (Nat.mod_lt (SetTable.bits h) (Nat.succ_pos mask)) (bits_lt h) hj0
  obtain ⟨j, ej, en⟩ := free_some (mask := mask) (owner := owner) m (SetTable.turns mask) (SetTable.bits h % (mask + 1)) (SetTable.bits h) (by unfold SetTable.turns; omega)
    (by rw [em, Array.getD_eq_getD_getElem?, ← Array.getElem?_toList, e0]; rfl)
  refine ⟨j, ej, ?_⟩
  have hjn : owner.toList[j]? = some none := by
    rw [Array.getD_eq_getD_getElem?, ← Array.getElem?_toList] at en
    cases hq : owner.toList[j]? with
    | none => rw [hq] at en; cases en
    | some v => rw [hq] at en; rw [show v = none from en]
  have hset : (owner.setIfInBounds j (some k)).toList = owner.toList.set j (some k) := by simp
  refine ⟨by simp [L.size], by rw [hset, countP_set hjn, L.cnt], fun x hx => ?_⟩
  rw [hset] at hx
  rcases List.mem_or_eq_of_mem_set hx with z | z
  · exact Nat.lt_succ_of_lt (L.lt x z)
  · cases z; exact Nat.lt_succ_self _
theorem lay_all {mask : Nat} (R : Rnd (mask + 1)) : ∀ (l : List Int) (owner : Array (Option Nat)) (k : Nat), Laid (mask + 1) owner k → k + l.length ≤ mask →
    ∃ owner', l.foldl (fun acc h => do
      let (owner, k) ← acc
      let j ← SetTable.layClean.free mask owner (SetTable.turns mask) (SetTable.bits h % (mask + 1)) (SetTable.bits h)
      pure (owner.setIfInBounds j (some k), k + 1)) (some (owner, k)) = some (owner', k + l.length) ∧ Laid (mask + 1) owner' (k + l.length)
  | [], owner, k, L, _ => ⟨owner, rfl, L⟩
  | h :: l, owner, k, L, hl => by
    rw [List.length_cons] at hl
    obtain ⟨j, ej, L'⟩ := L.one R (by omega) h
    obtain ⟨o', e, L2⟩ := lay_all R l _ _ L' (by omega)
    refine ⟨o', ?_, by rw [List.length_cons, show k + (l.length + 1) = k + 1 + l.length by omega]; exact L2⟩
    rw [List.foldl_cons]
    have : (do
      let (owner, k) ← some (owner, k)
      let j ← SetTable.layClean.free mask owner (SetTable.turns mask) (SetTable.bits h % (mask + 1)) (SetTable.bits h)
      pure (owner.setIfInBounds j (some k), k + 1) : Option (Array (Option Nat) × Nat)) = some (owner.setIfInBounds j (some k), k + 1) := by
      show (SetTable.layClean.free mask owner (SetTable.turns mask) (SetTable.bits h % (mask + 1)) (SetTable.bits h)).bind _ = _
      rw [ej]; rfl
    rw [this, e, List.length_cons, show k + (l.length + 1) = k + 1 + l.length by omega]
theorem layClean_ok {mask : Nat} (R : Rnd (mask + 1)) (hs : Array Int) (h : hs.size ≤ mask) : ∃ owner, SetTable.layClean mask hs = some owner ∧ Laid (mask + 1) owner hs.size := by
  have L0 : Laid (mask + 1) (Array.replicate (mask + 1) none) 0 := ⟨by simp, by simp [List.countP_replicate], fun x hx => by simp at hx⟩
  obtain ⟨o, e, L⟩ := lay_all R hs.toList _ 0 L0 (by simpa using h)
  refine ⟨o, ?_, by simpa using L⟩
  unfold SetTable.layClean
  rw [← Array.foldl_toList]
  have e' := congrArg (Option.map (·.1)) e
  exact e'
theorem live_facts {M n : Nat} {owner : Array (Option Nat)} (L : Laid M owner n) :
    ((List.range M).filterMap fun j => (owner.getD j none).map (j, ·)).length = n ∧ ∀ q ∈ (List.range M).filterMap (fun j => (owner.getD j none).map (j, ·)), q.2 < n := by
  constructor
  · rw [← L.cnt]
    have e : owner.toList = (List.range M).map fun j => owner.getD j none := by
      apply List.ext_getElem
      · simp [L.size]
      · intro i h1 h2
        simp only [List.getElem_map, List.getElem_range, Array.getElem_toList]
        rw [Array.getD_eq_getD_getElem?, Array.getElem?_eq_getElem (by simpa using h1)]
        rfl
    conv => rhs; rw [e]
    rw [List.countP_map]
    generalize List.range M = l
    induction l with
    | nil => rfl
    | cons a l ih =>
      rw [List.countP_cons, ← ih]
      cases hq : owner.getD a none with
      | none => rw [List.filterMap_cons_none (by rw [hq]; rfl), show (Option.isSome ∘ fun j => owner.getD j none) a = false by show (owner.getD a none).isSome = false; rw [hq]; rfl]; simp
      | some x => rw [List.filterMap_cons_some (b := (a, x)) (by rw [hq]; rfl), show (Option.isSome ∘ fun j => owner.getD j none) a = true by show (owner.getD a none).isSome = true; rw [hq]; rfl]; simp
  · intro q hq
    obtain ⟨j, _, e⟩ := List.mem_filterMap.mp hq
    cases hx : owner.getD j none with
    | none => rw [hx] at e; cases e
    | some x =>
      rw [hx] at e
      cases e
      refine L.lt x ?_
      rw [Array.getD_eq_getD_getElem?, ← Array.getElem?_toList] at hx
      cases hy : owner.toList[j]? with
      | none => rw [hy] at hx; cases hx
      | some v => rw [hy] at hx; obtain rfl : v = some x := hx; exact List.mem_of_getElem? hy
structure TabOk (hs : Array Int) (t : SetTable) : Prop where
  dm : t.dummies = #[]
  sz : t.place.size = hs.size
  ms : (t.mask = 7 ∧ hs.size ≤ 4) ∨ (t.mask = 31 ∧ hs.size ≤ 18) ∨ (t.mask = 127 ∧ hs.size ≤ 76) ∨ (t.mask = 511 ∧ hs.size ≤ 306)
theorem TabOk.rnd {hs : Array Int} {t : SetTable} (T : TabOk hs t) : Rnd (t.mask + 1) := by
  rcases T.ms with ⟨e, _⟩ | ⟨e, _⟩ | ⟨e, _⟩ | ⟨e, _⟩ <;> rw [e]
  · exact rnd8
  · exact rnd32
  · exact rnd128
  · exact rnd512
theorem insertAt_size {α : Type} (xs : Array α) (p : Nat) (x : α) : (SetTable.insertAt xs p x).size = xs.size + 1 := by
  unfold SetTable.insertAt
  simp
  omega
theorem insertAt_mem {α : Type} {xs : Array α} {p : Nat} {x y : α} (h : y ∈ (SetTable.insertAt xs p x).toList) : y = x ∨ y ∈ xs.toList := by
  unfold SetTable.insertAt at h
  rw [Array.toList_append, Array.toList_push, Array.toList_extract, Array.toList_extract] at h
  rcases List.mem_append.mp h with z | z
  · rcases List.mem_append.mp z with z | z
    · right
      rw [List.extract_eq_drop_take] at z
      exact List.mem_of_mem_drop (List.mem_of_mem_take z)
    · left; simpa using z
  · right
    rw [List.extract_eq_drop_take] at z
    exact List.mem_of_mem_drop (List.mem_of_mem_take z)
theorem setStep_ok {hs : Array Int} {t : SetTable} {h : Int} (T : TabOk hs t) (hn : h ∉ hs.toList) (hl : hs.size < 300) : ∃ hs' t', setStep hs t h = some (hs', t') ∧ TabOk hs' t' ∧ hs'.size = hs.size + 1 ∧ ∀ x ∈ hs'.toList, x = h ∨ x ∈ hs.toList := by
  have hle : t.place.size ≤ t.mask := by rw [T.sz]; rcases T.ms with ⟨e, z⟩ | ⟨e, z⟩ | ⟨e, z⟩ | ⟨e, z⟩ <;> omega
  have hh : ∀ i, i < t.place.size → hAt hs i ≠ h := by
    intro i hi e
    rw [T.sz] at hi
    unfold hAt at e
    rw [Array.getElem?_eq_getElem hi] at e
    exact hn (by rw [← e]; simp)
  obtain ⟨j, hp⟩ := probe_free (hashAt := hAt hs) (h := h) T.rnd T.dm hle hh
  have hg : t.gaveWay = false := by
    unfold SetTable.gaveWay
    rcases T.ms with ⟨e, _⟩ | ⟨e, _⟩ | ⟨e, _⟩ | ⟨e, _⟩ <;> rw [e] <;> rfl
  have q1 : (t.put j).1.place = SetTable.insertAt t.place (SetTable.below t.place j) j := rfl
  have q2 : (t.put j).1.dummies = #[] := by
    show (if SetTable.has t.dummies j = true then _ else t.dummies) = _
    rw [T.dm]
    rfl
  have q3 : (t.put j).1.mask = t.mask := rfl
  have s1 : (SetTable.insertAt hs (t.put j).2 h).size = hs.size + 1 := insertAt_size _ _ _
  have s2 : (t.put j).1.place.size = hs.size + 1 := by rw [q1, insertAt_size, T.sz]
  have fl : (t.put j).1.fill = hs.size + 1 := by unfold SetTable.fill; rw [s2, q2]; rfl
  have fit : (t.put j).1.fits (SetTable.insertAt hs (t.put j).2 h).size = true := by
    unfold SetTable.fits
    rw [s1, s2, fl, q3]
    simp
    rcases T.ms with ⟨e, z⟩ | ⟨e, z⟩ | ⟨e, z⟩ | ⟨e, z⟩ <;> omega
  unfold setStep
  rw [hg, if_neg Bool.false_ne_true, hp]
  dsimp only
  rw [if_pos (by rw [fit, s1]; simp; omega)]
  by_cases hf : (t.put j).1.tooFull = true
  · rw [if_pos hf]
    have hf' := hf
    unfold SetTable.tooFull at hf'
    rw [fl, q3] at hf'
    have hf2 : (hs.size + 1) * 5 ≥ t.mask * 3 := by simpa using hf'
    have gr : SetTable.grown (hs.size + 1) = (hs.size + 1) * 4 := by unfold SetTable.grown; rw [if_neg (by omega)]
    obtain ⟨m2, em2, hm2, R2⟩ : ∃ m2, SetTable.sizeAbove (SetTable.grown (hs.size + 1)) = m2 + 1 ∧ ((m2 = 31 ∧ hs.size + 1 ≤ 18) ∨ (m2 = 127 ∧ hs.size + 1 ≤ 76) ∨ (m2 = 511 ∧ hs.size + 1 ≤ 306)) ∧ Rnd (m2 + 1) := by
      rw [gr]
      rcases T.ms with ⟨e, z⟩ | ⟨e, z⟩ | ⟨e, z⟩ | ⟨e, z⟩
      · have : hs.size = 4 := by omega
        exact ⟨31, by rw [this]; rfl, .inl ⟨rfl, by omega⟩, rnd32⟩
      · have : hs.size = 18 := by omega
        exact ⟨127, by rw [this]; rfl, .inr (.inl ⟨rfl, by omega⟩), rnd128⟩
      · have : hs.size = 76 := by omega
        exact ⟨511, by rw [this]; rfl, .inr (.inr ⟨rfl, by omega⟩), rnd512⟩
      · omega
    have hm3 : (SetTable.insertAt hs (t.put j).2 h).size ≤ m2 := by rw [s1]; rcases hm2 with ⟨e, z⟩ | ⟨e, z⟩ | ⟨e, z⟩ <;> omega
    obtain ⟨owner, eo, L⟩ := layClean_ok R2 (SetTable.insertAt hs (t.put j).2 h) hm3
    obtain ⟨lv1, lv2⟩ := live_facts L
    rw [s1] at lv1 lv2
    generalize hlive : (List.range (m2 + 1)).filterMap (fun j => (owner.getD j none).map (j, ·)) = live at lv1 lv2
    have er : (t.put j).1.relaid (SetTable.insertAt hs (t.put j).2 h) (SetTable.grown (hs.size + 1)) = some ({ mask := m2, place := (live.map (·.1)).toArray, dummies := #[], finger := (t.put j).1.finger, led := (t.put j).1.led, moves := (t.put j).1.movedTo m2, plain := (t.put j).1.plain }, (live.map (·.2)).toArray) := by
      unfold SetTable.relaid SetTable.laid
      rw [em2]
      simp only [Nat.add_sub_cancel]
      rw [eo]
      show some _ = some _
      rw [← hlive]
    rw [er]
    dsimp only
    have hsz2 : ((live.map (·.2)).toArray.filterMap ((SetTable.insertAt hs (t.put j).2 h)[·]?)).size = hs.size + 1 := by
      rw [← Array.length_toList, Array.toList_filterMap]
      show ((live.map (·.2)).filterMap _).length = _
      rw [← lv1, List.filterMap_map]
      refine fm_len fun q hq => ?_
      show ((SetTable.insertAt hs (t.put j).2 h)[q.2]?).isSome = true
      rw [Array.getElem?_eq_getElem (by rw [s1]; exact lv2 q hq)]
      rfl
    have emf : ∀ x, ({ mask := m2, place := (live.map (·.1)).toArray, dummies := #[], finger := (t.put j).1.finger, led := (t.put j).1.led, moves := (t.put j).1.movedTo m2, plain := (t.put j).1.plain } : SetTable).fits x = (decide (hs.size + 1 = x) && decide (hs.size + 1 ≤ m2)) := by
      intro x
      unfold SetTable.fits SetTable.fill
      simp [lv1]
      rw [Bool.eq_iff_iff]; simp
    rw [if_pos (by
      rw [hsz2, s1, emf, em2]
      have : hs.size + 1 ≤ m2 := by rw [← s1]; exact hm3
      simp [this]
      rcases hm2 with ⟨e, z⟩ | ⟨e, z⟩ | ⟨e, z⟩ <;> omega)]
    refine ⟨_, _, rfl, ⟨rfl, ?_, ?_⟩, hsz2, fun x hx => ?_⟩
    · rw [hsz2]; simp [lv1]
    · rw [hsz2]; exact .inr hm2
    · rw [Array.toList_filterMap] at hx
      obtain ⟨k, _, ek⟩ := List.mem_filterMap.mp hx
      refine insertAt_mem (p := (t.put j).2) ?_
      rw [← Array.getElem?_toList] at ek
      exact List.mem_of_getElem? ek
  · rw [if_neg hf]
    refine ⟨_, _, rfl, ⟨q2, by rw [s2, s1], ?_⟩, s1, fun x hx => insertAt_mem hx⟩
    have hf' : ¬ (hs.size + 1) * 5 ≥ t.mask * 3 := by
      intro z
      refine hf ?_
      unfold SetTable.tooFull
      rw [fl, q3]
      simpa using z
    rw [s1, q3]
    rcases T.ms with ⟨e, z⟩ | ⟨e, z⟩ | ⟨e, z⟩ | ⟨e, z⟩ <;> omega
theorem setRun_from : ∀ (l : List Int) (hs : Array Int) (t : SetTable), TabOk hs t → (∀ x ∈ l, x ∉ hs.toList) → l.Nodup → hs.size + l.length ≤ 300 → ∃ hs' t', l.foldlM (fun q h => setStep q.1 q.2 h) (hs, t) = some (hs', t') ∧ hs'.size = hs.size + l.length
  | [], hs, t, _, _, _, _ => ⟨hs, t, rfl, rfl⟩
  | h :: l, hs, t, T, hn, nd, hl => by
    rw [List.length_cons] at hl
    obtain ⟨n1, n2⟩ := List.nodup_cons.mp nd
    obtain ⟨hs1, t1, e1, T1, z1, m1⟩ := setStep_ok T (hn h List.mem_cons_self) (by omega)
    obtain ⟨hs2, t2, e2, z2⟩ := setRun_from l hs1 t1 T1 (fun x hx hy => by
      rcases m1 x hy with e | e
      · exact n1 (e ▸ hx)
      · exact hn x (List.mem_cons_of_mem _ hx) e) n2 (by omega)
    refine ⟨hs2, t2, ?_, by rw [z2, z1, List.length_cons]; omega⟩
    rw [List.foldlM_cons]
    show (setStep hs t h).bind _ = _
    rw [e1]
    exact e2
theorem setRun_ok (led : Bool) {l : List Int} (nd : l.Nodup) (hl : l.length ≤ 300) : ∃ hs t, setRun led l = some (hs, t) ∧ hs.size = l.length := by
  obtain ⟨hs, t, e, z⟩ := setRun_from l #[] (SetTable.fresh 0 0 led) ⟨rfl, rfl, .inl ⟨rfl, by decide⟩⟩ (fun x _ h => by simp at h) nd (by simpa using hl)
  exact ⟨hs, t, e, by simpa using z⟩
end L2
namespace L2
open PySem PySem.Spec PyProof.Rows PySem.W
def chkND : List Nat → Nat → Bool
  | [], _ => true
  | x :: xs, acc => bif Nat.testBit acc x then false else chkND xs (acc ||| (1 <<< x))
theorem chkND_ok : ∀ (l : List Nat) (acc : Nat), chkND l acc = true → l.Nodup ∧ ∀ x ∈ l, acc.testBit x = false
  | [], _, _ => ⟨List.nodup_nil, fun x h => (nomatch h)⟩
  | x :: xs, acc, h => by
    unfold chkND at h
    cases hb : acc.testBit x with
    | true => rw [hb] at h; cases h
    | false =>
      rw [hb] at h
      obtain ⟨nd, hx⟩ := chkND_ok xs _ h
      have hor : ∀ y ∈ xs, acc.testBit y = false ∧ y ≠ x := by
        intro y hy
        have := hx y hy
        rw [Nat.testBit_or, Nat.one_shiftLeft, Nat.testBit_two_pow] at this
        rw [Bool.or_eq_false_iff] at this
        exact ⟨this.1, fun e => by have := this.2; simp [e] at this⟩
      refine ⟨List.nodup_cons.mpr ⟨fun hm => (hor x hm).2 rfl, nd⟩, fun y hy => ?_⟩
      rcases List.mem_cons.mp hy with z | z
      · rw [z]; exact hb
      · exact (hor y z).1
def allPairs : List (Int × Int) := (List.range 32).flatMap fun a => (List.range 32).map fun b => (Int.ofNat a, Int.ofNat b)
def resid (h : Int) : Nat := (h % 6554).toNat
theorem pairs_chk (P : Program) (w : World) : chkND (allPairs.map fun y => resid (pairHash P w y)) 0 = true := by kernel_rfl
theorem mem_all {y : Int × Int} (h1 : 0 ≤ y.1 ∧ y.1 < 32) (h2 : 0 ≤ y.2 ∧ y.2 < 32) : y ∈ allPairs := by
  unfold allPairs
  refine List.mem_flatMap.mpr ⟨y.1.toNat, List.mem_range.mpr (by omega), List.mem_map.mpr ⟨y.2.toNat, List.mem_range.mpr (by omega), Prod.ext ?_ ?_⟩⟩
  · show ((y.1.toNat : Nat) : Int) = y.1; omega
  · show ((y.2.toNat : Nat) : Int) = y.2; omega
theorem map_nodup_inj {α β : Type} {f : α → β} : ∀ {l : List α}, (l.map f).Nodup → ∀ x ∈ l, ∀ y ∈ l, f x = f y → x = y
  | [], _, _, h, _, _, _ => by cases h
  | a :: l, h, x, hx, y, hy, e => by
    rw [List.map_cons] at h
    obtain ⟨h1, h2⟩ := List.nodup_cons.mp h
    rcases List.mem_cons.mp hx with z | z <;> rcases List.mem_cons.mp hy with z' | z'
    · rw [z, z']
    · exact absurd (List.mem_map.mpr ⟨y, z', by rw [← e, z]⟩) h1
    · exact absurd (List.mem_map.mpr ⟨x, z, by rw [e, z']⟩) h1
    · exact map_nodup_inj h2 x z y z' e
theorem pairHash_inj {P : Program} {w : World} {x y : Int × Int} (hx : (0 ≤ x.1 ∧ x.1 < 32) ∧ (0 ≤ x.2 ∧ x.2 < 32)) (hy : (0 ≤ y.1 ∧ y.1 < 32) ∧ (0 ≤ y.2 ∧ y.2 < 32)) (e : pairHash P w x = pairHash P w y) : x = y :=
  map_nodup_inj (chkND_ok _ _ (pairs_chk P w)).1 x (mem_all hx.1 hx.2) y (mem_all hy.1 hy.2) (congrArg resid e)
theorem map_nodup {α β : Type} {f : α → β} : ∀ {l : List α}, l.Nodup → (∀ x ∈ l, ∀ y ∈ l, f x = f y → x = y) → (l.map f).Nodup
  | [], _, _ => List.nodup_nil
  | a :: l, h, hf => by
    obtain ⟨h1, h2⟩ := List.nodup_cons.mp h
    rw [List.map_cons]
    refine List.nodup_cons.mpr ⟨fun z => ?_, map_nodup h2 fun x hx y hy => hf x (List.mem_cons_of_mem _ hx) y (List.mem_cons_of_mem _ hy)⟩
    obtain ⟨y, hy, e⟩ := List.mem_map.mp z
    have := hf y (List.mem_cons_of_mem _ hy) a List.mem_cons_self e
    exact h1 (this ▸ hy)
theorem setPairs_ok {P : Program} {w : World} (led : Bool) {ys : List (Int × Int)} (nd : ys.Nodup) (hr : ∀ y ∈ ys, (0 ≤ y.1 ∧ y.1 < 32) ∧ (0 ≤ y.2 ∧ y.2 < 32)) (hl : ys.length ≤ 300) :
    ∃ hs t, setRun led (ys.map (pairHash P w)) = some (hs, t) ∧ hs.size = ys.length := by
  obtain ⟨hs, t, e, z⟩ := setRun_ok led (map_nodup nd fun x hx y hy e => pairHash_inj (P := P) (w := w) (hr x hx) (hr y hy) e) (by rw [List.length_map]; exact hl)
  exact ⟨hs, t, e, by rw [z, List.length_map]⟩
end L2
namespace L2
open PySem PySem.Spec PyProof.Rows PySem.W
theorem refs_of : ∀ {as : List Addr} {its : List Value}, Vals (as.map V.ref) its → its = as.map Value.ref
  | [], _, r => by cases r; rfl
  | a :: as, _, r => by
    cases r with
    | cons r rr =>
      obtain rfl := (show _ = Value.ref a from r)
      rw [refs_of rr]; rfl
def setO (D : Addr) (n : Nat) : HO := .ext fun h => ∃ hs t, SetAt h D hs t ∧ hs.size = n
section
variable {X : Cx}
def rSetP (K : PySem.W.Frag) : List V → Hp → VK → Prop := fun xs H Q => ∃ (l : Addr) (as : List Addr) (ys : List (Int × Int)), xs = [.ref l] ∧ SqL K H l (as.map V.ref) ∧ as.length = ys.length ∧
  (∀ i, i < ys.length → PairAt K H (as.getD i 0) (ys.getD i (0, 0))) ∧ ys.Nodup ∧ (∀ y ∈ ys, (0 ≤ y.1 ∧ y.1 < 32) ∧ (0 ≤ y.2 ∧ y.2 < 32)) ∧ ys.length ≤ 300 ∧ ∀ D, H D = none → Q (.ref D) (upd H D (setO D ys.length))
theorem call_setP (hc : X.calm = true) (hu : X.A.units + 8 < cLine) : CallR X (.type "set") (rSetP X.K) := by
  intro pins s σ H xs us Q I r h
  obtain ⟨l, as, ys, rfl, hl, hlen, hp, nd, rg, h3, q⟩ := h
  obtain ⟨u1, rfl, r1⟩ := r.one
  obtain rfl : u1 = Value.ref l := r1
  obtain ⟨its, rv, pl, hz⟩ := I.list hl
  have e := refs_of rv
  subst e
  have hpi : PairsIn s.heap (as.map Value.ref) ys := ⟨by rw [List.length_map, hlen], fun i v hv => by
    rw [List.getElem?_map] at hv
    cases ea : as[i]? with
    | none => rw [ea] at hv; cases hv
    | some a =>
      rw [ea] at hv
      obtain rfl : Value.ref a = v := Option.some.inj hv
      have hi : i < as.length := (List.getElem?_eq_some_iff.mp ea).1
      obtain ⟨o, n, t, u, e1, c, d⟩ := pair_there I (hp i (by omega))
      have eg : as.getD i 0 = a := by rw [List.getD_eq_getElem?_getD, ea]; rfl
      rw [eg] at e1
      exact ⟨a, o, n, t, u, rfl, e1, c, d⟩⟩
  have hrun : ∀ led, ∃ q : Array Int × SetTable, setRun led (ys.map (pairHash X.prog X.w)) = some q ∧ q.1.size = ys.length := fun led =>
    let ⟨hs, t, e, z⟩ := setPairs_ok (P := X.prog) (w := X.w) led nd rg h3; ⟨(hs, t), e, z⟩
  refine set_call (I.ok.hd hc) hu pl.isList hpi (hsN := fun led => (hrun led).choose.1) (tN := fun led => (hrun led).choose.2) (fun led => (hrun led).choose_spec.1) fun led h' tk S' k => ?_
  refine ⟨.ref s.heap.objs.size, _, I.laidN (t' := tk) (o := setO s.heap.objs.size ys.length) (fun b u e => k b u (Heap.lt_size e) e) (Heap.get?_none_of_le (Nat.le_refl _)) ⟨⟨_, _, S', (hrun led).choose_spec.2⟩, ?_, fun h1 h2 ⟨hs, t, ⟨o, es, ep, q1, q2⟩, z⟩ kk => ⟨hs, t, ⟨o, es, ep, kk o q1, q2⟩, z⟩⟩, rfl, q _ I.fresh⟩
  obtain ⟨o, _, _, q1, _⟩ := S'
  exact ⟨o, q1⟩
theorem call_lenSet : CallR X (.builtin "len") (fun xs H Q => ∃ D n, xs = [.ref D] ∧ H D = some (setO D n) ∧ n ≤ 4096 ∧ Q (.int n) H) := by
  intro pins s σ H xs us Q I r h
  obtain ⟨D, n, rfl, e, hn, q⟩ := h
  obtain ⟨u1, rfl, r1⟩ := r.one
  obtain rfl : u1 = Value.ref D := r1
  obtain ⟨⟨hs, t, ⟨o, es, ep, q1, q2, q3, q4, q5, q6⟩, z⟩, _⟩ := (show ObjOk X.prog X.w H s.heap D (setO D n) from I.hok D _ e)
  have hsz : es.size = n := by rw [← z, ← q5, Array.size_map]
  exact call_len_set q1 ⟨q2, q3.1, q3.2⟩ q4 q6 (by rw [hsz]; omega) ⟨.int n, H, I.tok _, ⟨_, by rw [hsz]⟩, q⟩
theorem call_rangeV : CallR X (.type "range") (fun xs H Q => ∃ n, xs = [.int n] ∧ ∀ p, H p = none → Q (.ref p) (upd H p (.rng 0 n))) := by
  intro pins s σ H xs us Q I r h
  obtain ⟨n, rfl, q⟩ := h
  obtain ⟨u1, rfl, t, rfl⟩ := r.one
  refine call_range_1 ⟨.ref s.heap.objs.size, _, I.laid (o := .rng 0 n) (fun b u e => Heap.get?_push_of_some _ e) (Nat.le_refl _) ⟨_, _, _, Heap.get?_push_size _ rfl⟩, rfl, q _ I.fresh⟩
theorem call_listR (hc : X.calm = true) : CallR X (.type "list") (fun xs H Q => ∃ (p : Addr) (n : Nat), xs = [.ref p] ∧ H p = some (.rng 0 n) ∧ n ≤ 1000 ∧ ∀ l, H l = none → Q (.ref l) (upd H l (.lst ((List.range n).map fun (i : Nat) => V.int i)))) := by
  intro pins s σ H xs us Q I r h
  obtain ⟨p, n, rfl, e, hn, q⟩ := h
  obtain ⟨u1, rfl, r1⟩ := r.one
  obtain rfl : u1 = Value.ref p := r1
  obtain ⟨t, u, v, hp⟩ := (show ObjOk X.prog X.w H s.heap p (.rng 0 n) from I.hok p _ e)
  refine call_list_range (n := n) (I.ok.hd hc) (show IsRange s.heap p 0 n 1 t u v from hp) (small_one (by omega) (by omega) (by omega) (by omega)) (by rw [rangeSize_one]; split <;> omega) (by omega) fun h' tk acc c k g it => ?_
  obtain ⟨i1, i2⟩ := it
  refine ⟨.ref s.heap.objs.size, _, I.laidN (t' := tk) (o := .lst ((List.range n).map fun (i : Nat) => V.int i)) (fun b u e => k b u e) (Heap.get?_none_of_le (Nat.le_refl _)) ⟨?_, acc.toList, c, ?_, by simpa using g⟩, rfl, q _ I.fresh⟩
  · rw [List.length_map, List.length_range]
    exact Nat.le_trans hn (by decide)
  · have go : ∀ (m : Nat) (l : List Value), l.length = m → (∀ (j : Nat) v, l[j]? = some v → ∃ t, v = Value.int (0 + (j : Int) * 1) t) → Vals ((List.range m).map fun (i : Nat) => V.int i) l := by
      intro m
      induction m with
      | zero => intro l hl _; cases l with
        | nil => exact .nil
        | cons _ _ => cases hl
      | succ m ih =>
        intro l hl hv
        have hne : l ≠ [] := by intro z; rw [z] at hl; cases hl
        have el : l = l.dropLast ++ [l.getLast hne] := (List.dropLast_concat_getLast hne).symm
        rw [List.range_succ, List.map_append, el]
        have hdl : l.dropLast.length = m := by rw [List.length_dropLast, hl]; rfl
        refine Vals.append (ih _ hdl fun j v hj => hv j v ?_) (.cons ?_ .nil)
        · rw [el]
          have hj' : j < l.dropLast.length := (List.getElem?_eq_some_iff.mp hj).1
          rw [List.getElem?_append_left hj']
          exact hj
        · obtain ⟨t, ht⟩ := hv m (l.getLast hne) (by
            rw [List.getLast_eq_getElem, List.getElem?_eq_getElem (by omega : m < l.length)]
            simp [hl])
          exact ⟨t, by rw [ht]; simp⟩
    exact go n acc.toList (by simpa using i1) fun j v hj => i2 j v (by simpa using hj)
end
end L2
namespace L2
open PySem PySem.Spec PyProof.Rows PySem.W
def allEq (e : V → V → Bool) : List V → List V → Bool
  | [], [] => true
  | x :: xs, y :: ys => e x y && allEq e xs ys
  | _, _ => false
theorem allEq_range {e : V → V → Bool} : ∀ {xs ys : List V}, xs.length = ys.length → allEq e xs ys = (List.range xs.length).all fun i => e (xs.getD i .non) (ys.getD i .non)
  | [], [], _ => rfl
  | x :: xs, y :: ys, h => by
    have h' : xs.length = ys.length := by simpa using h
    rw [allEq, allEq_range h', List.length_cons, List.range_succ_eq_map, List.all_cons, List.all_map]
    rfl
  | [], _ :: _, h => by simp at h
  | _ :: _, [], h => by simp at h
theorem allEq_len {e : V → V → Bool} : ∀ {xs ys : List V}, xs.length ≠ ys.length → allEq e xs ys = false
  | [], [], h => absurd rfl h
  | x :: xs, y :: ys, h => by
    have h' : xs.length ≠ ys.length := fun z => h (by simp [z])
    rw [allEq, allEq_len h', Bool.and_false]
  | [], _ :: _, _ => rfl
  | _ :: _, [], _ => rfl
section
variable {X : Cx}
def ElEq (X : Cx) (H : Hp) (e : V → V → Bool) (x y : V) : Prop := ∀ (pins : List (Addr × Obj)) (s : Shared) (σ : St) (A : Around) (u v : Value), Inv X pins σ H s → A.units + 1 < cLine → RelV x u → RelV y v → SeqAt.EqAt A s u v (e x y)
theorem elEq_flat {H : Hp} {x y : V} (fx : flatV x = true) (fy : flatV y = true) : ElEq X H eqV x y := fun _ _ _ _ _ _ _ _ rx ry => eqAt_V rx ry fx fy
def rLEq (X : Cx) (neg : Bool) (e : V → V → Bool) : R2 := fun x y H Q => ∃ p q xs ys, x = .ref p ∧ y = .ref q ∧ SqL X.K H p xs ∧ SqL X.K H q ys ∧ (∀ i, i < xs.length → i < ys.length → ElEq X H e (xs.getD i .non) (ys.getD i .non)) ∧ Q (.bl (if neg then !allEq e xs ys else allEq e xs ys)) H
theorem items_eq {pins : List (Addr × Obj)} {s : Shared} {σ : St} {H : Hp} {A : Around} {e : V → V → Bool} {xs ys : List V} {us vs : List Value} (I : Inv X pins σ H s) (hu : A.units + 1 < cLine) (rx : Vals xs us) (ry : Vals ys vs)
    (he : ∀ i, i < xs.length → i < ys.length → ElEq X H e (xs.getD i .non) (ys.getD i .non)) : ∀ j (h1 : j < us.toArray.size) (h2 : j < vs.toArray.size), SeqAt.EqAt A s us.toArray[j] vs.toArray[j] (e (xs.getD j .non) (ys.getD j .non)) := by
  intro j h1 h2
  have j1 : j < xs.length := by rw [rx.length]; simpa using h1
  have j2 : j < ys.length := by rw [ry.length]; simpa using h2
  have e1 : xs[j]? = some (xs.getD j .non) := by rw [List.getD_eq_getElem?_getD, List.getElem?_eq_getElem j1]; rfl
  have e2 : ys[j]? = some (ys.getD j .non) := by rw [List.getD_eq_getElem?_getD, List.getElem?_eq_getElem j2]; rfl
  obtain ⟨u, hu1, ru⟩ := rx.get e1
  obtain ⟨v, hv1, rv⟩ := ry.get e2
  have eu : us.toArray[j] = u := by
    have : us[j]? = some us.toArray[j] := by simp at h1 ⊢
    rw [hu1] at this; exact (Option.some.inj this).symm
  have ev : vs.toArray[j] = v := by
    have : vs[j]? = some vs.toArray[j] := by simp at h2 ⊢
    rw [hv1] at this; exact (Option.some.inj this).symm
  rw [eu, ev]
  exact he j j1 j2 pins s σ A u v I hu ru rv
theorem op_neL {e : V → V → Bool} (hu : X.A.units + 2 < cLine) : OpR X (compareOp .NotEq) (rLEq X true e) := by
  intro pins s σ H x y v u Q I rx ry h
  obtain ⟨p, q, xs, ys, rfl, rfl, hp, hq, he, k⟩ := h
  obtain rfl : v = Value.ref p := rx
  obtain rfl : u = Value.ref q := ry
  obtain ⟨us, r1, p1, _⟩ := I.list hp
  obtain ⟨vs, r2, p2, _⟩ := I.list hq
  by_cases hl : xs.length = ys.length
  · refine SeqAt.RcNeAt.lists (e := fun i => e (xs.getD i .non) (ys.getD i .non)) p1.isList p2.isList (by simp only [List.size_toArray]; rw [← r1.length, ← r2.length]; exact hl) (by omega) (items_eq I (by show X.A.units + 1 + 1 < cLine; omega) r1 r2 he) _ _ _ _ ⟨.bl _, H, I, rfl, ?_⟩
    rw [show us.toArray.size = xs.length by rw [List.size_toArray, r1.length], ← allEq_range hl]
    exact k
  · refine SeqAt.RcNeAt.lists_lengths p1.isList p2.isList (by simp only [List.size_toArray]; rw [← r1.length, ← r2.length]; simpa using hl) (by omega) _ _ _ _ ⟨.bl _, H, I, rfl, ?_⟩
    have k' := k
    rw [allEq_len hl] at k'
    exact k'
theorem op_eqL {e : V → V → Bool} (hu : X.A.units + 2 < cLine) : OpR X (compareOp .Eq) (rLEq X false e) := by
  intro pins s σ H x y v u Q I rx ry h
  obtain ⟨p, q, xs, ys, rfl, rfl, hp, hq, he, k⟩ := h
  obtain rfl : v = Value.ref p := rx
  obtain rfl : u = Value.ref q := ry
  obtain ⟨us, r1, p1, _⟩ := I.list hp
  obtain ⟨vs, r2, p2, _⟩ := I.list hq
  by_cases hl : xs.length = ys.length
  · refine SeqAt.eq_listAt (e := fun i => e (xs.getD i .non) (ys.getD i .non)) p1.isList p2.isList (by simp only [List.size_toArray]; rw [← r1.length, ← r2.length]; exact hl) (by omega) (items_eq I (by show X.A.units + 1 + 1 < cLine; omega) r1 r2 he) ⟨.bl _, H, I, rfl, ?_⟩
    rw [show us.toArray.size = xs.length by rw [List.size_toArray, r1.length], ← allEq_range hl]
    exact k
  · refine SeqAt.eq_list_lengthsAt p1.isList p2.isList (by simp only [List.size_toArray]; rw [← r1.length, ← r2.length]; simpa using hl) (by omega) ⟨.bl _, H, I, rfl, ?_⟩
    have k' := k
    rw [allEq_len hl] at k'
    exact k'
theorem call_anyB (hc : X.calm = true) : CallR X (.builtin "any") (fun xs H Q => ∃ (p : Addr) (bs : List Bool), xs = [.ref p] ∧ SqL X.K H p (bs.map V.bl) ∧ Q (.bl (bs.any id)) H) := by
  intro pins s σ H xs us Q I r h
  obtain ⟨p, bs, rfl, hp, q⟩ := h
  obtain ⟨u1, rfl, r1⟩ := r.one
  obtain rfl : u1 = Value.ref p := r1
  obtain ⟨its, rv, pl, hz⟩ := I.list hp
  have hits : its = bs.map Value.bool := by
    have go : ∀ (bs : List Bool) (its : List Value), Vals (bs.map V.bl) its → its = bs.map Value.bool := by
      intro bs
      induction bs with
      | nil => intro its r; cases r; rfl
      | cons b bs ih =>
        intro its r
        cases r with
        | cons r rr =>
          obtain rfl := (show _ = Value.bool b from r)
          rw [ih _ rr]; rfl
    exact go bs its rv
  subst hits
  obtain ⟨ob, hob, _⟩ := id pl.isList
  have hlt : p < s.heap.objs.size := Heap.lt_size hob
  refine call_any_walk (wpAny_pyIter_list pl.isList ⟨s.heap.objs.size, _, _, _, _, _, fun i => bs.getD i false, rfl, Walks.list (show X.A.in1.handled = none from I.ok.hd hc) _ p (Nat.ne_of_lt hlt) _, ⟨⟨_, Heap.get?_push_size _ rfl, rfl, rfl⟩, pl.isList.push _⟩, fun i v s1 Q' E' hv hq => ?_, fun h' tk k => ?_⟩)
  · have hv' : (bs.map Value.bool)[i]? = some v := by simpa using hv
    rw [List.getElem?_map] at hv'
    cases eb : bs[i]? with
    | none => rw [eb] at hv'; cases hv'
    | some b =>
      rw [eb] at hv'
      obtain rfl : Value.bool b = v := Option.some.inj hv'
      have : bs.getD i false = b := by rw [List.getD_eq_getElem?_getD, eb]; rfl
      have hq' : Q' b s1 := by rw [← this]; exact hq
      exact wpAny_pure hq'
  · have keep : ∀ b o, s.heap.get? b = some o → h'.get? b = some o := fun b o e => k b o (by simpa using Nat.ne_of_lt (Heap.lt_size e)) (Heap.get?_push_of_some _ e)
    refine ⟨.bl (bs.any id), H, I.kept (t' := tk) keep, ?_, q⟩
    show Value.bool _ = Value.bool _
    congr 1
    have go : ∀ (bs : List Bool), ((List.range bs.length).any fun i => bs.getD i false) = bs.any id := by
      intro bs
      induction bs with
      | nil => rfl
      | cons b bs ih =>
        rw [List.length_cons, List.range_succ_eq_map, List.any_cons, List.any_map, List.any_cons, ← ih]
        rfl
    rw [← go bs]
    simp
end
end L2
namespace L2
open PySem PySem.Spec PyProof.Rows
def codeO (c : Addr) (qual : Str) : HO := .ext fun h => h.CodeRec (.ref c) qual
theorem codeO_ok {P : Program} {w : World} {H : Hp} {h : Heap} {c : Addr} {qual : Str} (x : h.CodeRec (.ref c) qual) : ObjOk P w H h c (codeO c qual) := by
  refine ⟨x, ?_, ?_⟩
  · obtain ⟨c', o, vs, t, e, ho, _⟩ := x
    cases e; exact ⟨o, ho⟩
  · rintro h1 h2 ⟨c', o, vs, t, e, ho, r⟩ k
    cases e; exact ⟨c, o, vs, t, rfl, k o ho, r⟩
def lamIs (f : Addr) (qual : Str) (params : Arguments) (body : Expr) (scope : Scope) (cells : List (Str × Addr)) (c : Addr) (h : Heap) : Prop :=
  ∃ (clos : List (Str × Addr)) (pm ctv : Value), (∀ x a, clos.lookup x = some a → cells.lookup x = some a) ∧ (∀ x, (x, NameKind.free) ∈ scope.names → ∃ a, clos.lookup x = some a) ∧
    h.get? f = some (PySem.W.kla_obj "<lambda>" qual params body scope clos pm c ctv)
def lamO (f : Addr) (qual : Str) (params : Arguments) (body : Expr) (scope : Scope) (cells : List (Str × Addr)) (c : Addr) : HO := .ext (lamIs f qual params body scope cells c)
theorem lamO_ok {P : Program} {w : World} {H : Hp} {h : Heap} {f : Addr} {qual : Str} {params : Arguments} {body : Expr} {scope : Scope} {cells : List (Str × Addr)} {c : Addr} (x : lamIs f qual params body scope cells c h) :
    ObjOk P w H h f (lamO f qual params body scope cells c) := by
  refine ⟨x, ?_, ?_⟩
  · obtain ⟨_, _, _, _, _, e⟩ := x
    exact ⟨_, e⟩
  · rintro h1 h2 ⟨clos, pm, ctv, a, b, e⟩ k
    exact ⟨clos, pm, ctv, a, b, k _ e⟩
def TabAt (lp : Pos) (qual : Str) (P : Addr) (H : Hp) : Prop := H P = some (.tbl #[]) ∨ ∃ c, H P = some (.tbl #[rawInt lp.line, rawInt lp.col, .ref c]) ∧ H c = some (codeO c qual)
structure LamC (X : Cx) (c P : Addr) : Prop where
  code : X.env.code = .ref c
  hd : PySem.W.CodeHd X.base c P
  bm : ∃ bm o, X.mg "__builtins__" = some (.ref bm) ∧ bm ≠ builtinsNs ∧ bm ≠ mainGlobals ∧ X.base.get? bm = some o ∧ o.cls = .type "module" ∧ o.dict = some builtinsNs ∧ o.data = .plain
def tLam (lp : Pos) (qual : Str) (P : Addr) (params : Arguments) (body : Expr) (scope : Scope) (cells : List (Str × Addr)) : TE := fun _ H Q => TabAt lp qual P H ∧
  ∀ (f c : Addr) (H2 : Hp), TabAt lp qual P H2 → (∀ b o, H b = some o → b ≠ P → H2 b = some o) → H2 c = some (codeO c qual) → H2 f = some (lamO f qual params body scope cells c) → Q (.ref f) H2
theorem triples_one {lp : Pos} {c : Addr} : TriplesOk (#[rawInt lp.line, rawInt lp.col, .ref c] : Array Value).toList := trivial
theorem among_one {lp : Pos} {c : Addr} : codeAmong lp (#[rawInt lp.line, rawInt lp.col, .ref c] : Array Value).toList = some (.ref c) := by
  show (if ((lp.line : Int) == (lp.line : Int) && (lp.col : Int) == (lp.col : Int)) = true then some (Value.ref c) else _) = _
  simp
section
variable {X : Cx} {c P : Addr} {params : Arguments} {body : Expr} {scope : Scope} {lp : Pos} {NB : List Str} {src : List (Option Nat)}
theorem LamC.at (C : LamC X c P) {pins : List (Addr × Obj)} {σ : St} {H : Hp} {s : Shared} {ps : Array Value} (I : Inv X pins σ H s) (hP : H P = some (.tbl ps)) : s.heap.BuiltinsAt X.mg P := by
  obtain ⟨bm, o, b1, b2, b3, b4, b5, b6, b7⟩ := C.bm
  refine ⟨bm, o, b1, b2, b3, fun z => ?_, I.bk _ _ b4, b5, b6, b7⟩
  have := (I.bs _ _ b4).2
  rw [z, hP] at this; cases this
theorem Inv.globs {pins : List (Addr × Obj)} {σ : St} {H : Hp} {s : Shared} (I : Inv X pins σ H s) : s.heap.Ns mainGlobals X.mg := I.mod.glob.keeps I.bk
theorem pe_lam (C : LamC X c P) (S : BlkScope NB src scope X) (hdef : defaultsOf params X.env = ([], []) := by rfl) : PE X (.Lambda params body scope lp) (tLam lp (X.env.qual ++ "<lambda>") P params body scope X.env.cells) := by
  intro pins s σ H Q I h
  obtain ⟨tab, h⟩ := h
  obtain ⟨clos, ecl, c1, c2⟩ := closure_ex I.ok S
  refine PySem.W.kla_eval hdef ?_
  have hsz : ∀ b o, s.heap.get? b = some o → b < s.heap.objs.size := fun b o e => Heap.lt_size e
  rcases tab with hP | ⟨c', hP, hc'⟩
  · -- the first time
    have hPo : s.heap.get? P = some (PySem.W.tabObj #[]) := I.hok P _ hP
    have hPL : X.env.locals ≠ P := fun z => by have f := I.free; rw [z, hP] at f; cases f
    have hPg : mainGlobals ≠ P := fun z => by
      obtain ⟨o, es, ep, e, d, _⟩ := I.mod.glob
      have := (I.bs _ _ e).2
      rw [z, hP] at this; cases this
    refine PySem.W.kla_makeFunction (mg := X.mg) ecl I.ok.glob I.globs C.code (C.hd.keeps I.bk) hPo (by trivial) rfl hPg (C.at I hP) fun c' ctv h' tk hx hge hlt hrec htb => ?_
    have hgt : ∀ b o, b ≠ P → s.heap.get? b = some o → (h'.push (PySem.W.kla_obj "<lambda>" (X.env.qual ++ "<lambda>") params body scope clos ((X.mg "__name__").getD .none) c' ctv)).get? b = some o := fun b o hb e => Heap.get?_push_of_some _ (hx b o hb e)
    have hcP : c' ≠ P := Nat.ne_of_gt (Nat.lt_of_lt_of_le (hsz _ _ hPo) hge)
    have hfP : h'.objs.size ≠ P := Nat.ne_of_gt (Nat.lt_of_lt_of_le (hsz _ _ hPo) (Nat.le_trans hge (Nat.le_of_lt hlt)))
    have hfc : h'.objs.size ≠ c' := Nat.ne_of_gt hlt
    have nf : H h'.objs.size = none := I.hok.fresh (by omega)
    have nc : H c' = none := I.hok.fresh hge
    let H2 : Hp := upd (upd (upd H P (.tbl #[rawInt lp.line, rawInt lp.col, .ref c'])) c' (codeO c' (X.env.qual ++ "<lambda>"))) h'.objs.size (lamO h'.objs.size (X.env.qual ++ "<lambda>") params body scope X.env.cells c')
    have eP : H2 P = some (.tbl #[rawInt lp.line, rawInt lp.col, .ref c']) := by
      show upd _ _ _ _ = _
      rw [upd_ne hfP.symm, upd_ne hcP.symm, upd_same]
    have ec : H2 c' = some (codeO c' (X.env.qual ++ "<lambda>")) := by
      show upd _ _ _ _ = _
      rw [upd_ne hfc.symm, upd_same]
    have ef : H2 h'.objs.size = some (lamO h'.objs.size (X.env.qual ++ "<lambda>") params body scope X.env.cells c') := upd_same
    have eo : ∀ b, b ≠ P → b ≠ c' → b ≠ h'.objs.size → H2 b = H b := fun b h1 h2 h3 => by
      show upd _ _ _ _ = _
      rw [upd_ne h3, upd_ne h2, upd_ne h1]
    have old : ∀ b o, H b = some o → b ≠ P → H2 b = some o := fun b o e hb => by
      rw [eo b hb (ne_of_none e nc) (ne_of_none e nf)]; exact e
    have I2 : Inv X pins σ H2 { s with heap := h'.push (PySem.W.kla_obj "<lambda>" (X.env.qual ++ "<lambda>") params body scope clos ((X.mg "__name__").getD .none) c' ctv), toks := tk } := by
      refine I.step (g' := s.gens) (d' := s.drawn) (ch := []) (fun _ z => absurd z (by simp)) (fun b o _ _ _ e n => hgt b o (fun z => by rw [z, hP] at n; cases n) e) (fun b o _ _ _ e n => ⟨o.slots, hgt b o (fun z => by rw [z, hP] at n; cases n) e⟩)
        (fun b o _ e n => ?_) (fun b o _ e => ?_) (fun b xs e => old b _ e fun z => by rw [z, hP] at e; cases e) (fun b o u e => old b _ e fun z => by rw [z, hP] at e; cases e) (fun b ps e => ?_) (fun m hm => ?_) (fun b o e => ?_) I.bare
      · rw [eo b (fun z => by rw [z, hP] at n; cases n) (Nat.ne_of_lt (Nat.lt_of_lt_of_le (hsz b o e) hge)) (Nat.ne_of_lt (Nat.lt_of_lt_of_le (hsz b o e) (Nat.le_trans hge (Nat.le_of_lt hlt))))]
        exact n
      · by_cases hb : b = P
        · exact ⟨_, by rw [hb]; exact Heap.get?_push_of_some _ htb⟩
        · exact ⟨o, hgt b o hb e⟩
      · by_cases hb : b = P
        · rw [hb] at e ⊢
          rw [hP] at e; cases e
          exact ⟨#[rawInt lp.line, rawInt lp.col, .ref c'], by rw [eP]; simp⟩
        · exact ⟨#[], by rw [old b _ e hb]; simp⟩
      · exact (hm.extBut hx hPL).push _
      · by_cases hbf : b = h'.objs.size
        · subst hbf
          rw [ef] at e; cases e
          exact lamO_ok ⟨clos, _, ctv, c1, c2, Heap.get?_push_size _ rfl⟩
        · by_cases hbc : b = c'
          · subst hbc
            rw [ec] at e; cases e
            refine codeO_ok ?_
            obtain ⟨c₂, oc, vs, t, e2, hoc, r⟩ := hrec
            exact ⟨c₂, oc, vs, t, e2, Heap.get?_push_of_some _ hoc, r⟩
          · by_cases hbP : b = P
            · subst hbP
              rw [eP] at e; cases e
              exact Heap.get?_push_of_some _ htb
            · rw [eo b hbP hbc hbf] at e
              refine (I.hok b o e).stay (fun d u hd q => hgt d u ?_ q) (fun d q => old d _ q fun z => by rw [z, hP] at q; cases q) fun d xs q => old d _ q fun z => by rw [z, hP] at q; cases q
              rintro rfl
              rcases hd with z | z
              · exact hbP z.symm
              · rw [hP] at z; cases z
    exact ⟨.ref h'.objs.size, H2, I2, rfl, h _ c' H2 (.inr ⟨c', eP, ec⟩) old ec ef⟩
  · -- again
    have hPo : s.heap.get? P = some (PySem.W.tabObj #[rawInt lp.line, rawInt lp.col, .ref c']) := I.hok P _ hP
    refine PySem.W.kla_makeFunctionHit (mg := X.mg) ecl I.ok.glob I.globs C.code (C.hd.keeps I.bk) hPo triples_one among_one (C.at I hP) fun ctv h' tk hk hge => ?_
    have nf : H h'.objs.size = none := I.hok.fresh hge
    let H2 : Hp := upd H h'.objs.size (lamO h'.objs.size (X.env.qual ++ "<lambda>") params body scope X.env.cells c')
    have ef : H2 h'.objs.size = some (lamO h'.objs.size (X.env.qual ++ "<lambda>") params body scope X.env.cells c') := upd_same
    have old : ∀ b o, H b = some o → H2 b = some o := fun b o e => by
      show upd _ _ _ _ = _
      rw [upd_ne (ne_of_none e nf)]; exact e
    have hgt : ∀ b o, s.heap.get? b = some o → (h'.push (PySem.W.kla_obj "<lambda>" (X.env.qual ++ "<lambda>") params body scope clos ((X.mg "__name__").getD .none) c' ctv)).get? b = some o := fun b o e => Heap.get?_push_of_some _ (hk b o e)
    have I2 : Inv X pins σ H2 { s with heap := h'.push (PySem.W.kla_obj "<lambda>" (X.env.qual ++ "<lambda>") params body scope clos ((X.mg "__name__").getD .none) c' ctv), toks := tk } := by
      refine I.step (g' := s.gens) (d' := s.drawn) (ch := []) (fun _ z => absurd z (by simp)) (fun b o _ _ _ e n => hgt b o e) (fun b o _ _ _ e n => ⟨o.slots, hgt b o e⟩)
        (fun b o _ e n => ?_) (fun b o _ e => ⟨o, hgt b o e⟩) (fun b xs e => old b _ e) (fun b o u e => old b _ e) (fun b ps e => ⟨#[], by rw [old b _ e]; simp⟩) (fun m hm => (hm.keeps hk).push _) (I.hok.laid hgt hge (lamO_ok ⟨clos, _, ctv, c1, c2, Heap.get?_push_size _ rfl⟩)) I.bare
      · show upd _ _ _ _ = _
        rw [upd_ne (Nat.ne_of_lt (Nat.lt_of_lt_of_le (hsz b o e) hge))]
        exact n
    exact ⟨.ref h'.objs.size, H2, I2, rfl, h _ c' H2 (.inr ⟨c', old _ _ hP, old _ _ hc'⟩) (fun b o e _ => old b o e) (old _ _ hc') ef⟩
end
end L2
namespace L2
open PySem PySem.Spec PyProof.Rows
def CallKR (X : Cx) (id : String) (ks : List Str) (r : St → List V → List V → Hp → VK → Prop) : Prop :=
  ∀ (pins : List (Addr × Obj)) (s : Shared) (σ : St) (H : Hp) (vs zs : List V) (us ws : List Value) (Q : VK), Inv X pins σ H s → Vals vs us → Vals zs ws → r σ vs zs H Q →
    wpAny (model X.prog X.w) X.A (call (.builtin id) us (ks.zip ws)) (EP X pins σ Q) X.xe s
def tCBK (r : St → List V → List V → Hp → VK → Prop) (t tk : TA) : TE := fun σ H Q => t σ H fun vs H1 => tk σ H1 fun zs H2 => r σ vs zs H2 Q
section
variable {X : Cx} {x : Str} {p pos : Pos} {e : Expr} {es : List Expr} {kws : List Keyword} {t tk : TA} {id : String} {ks : List Str} {r : St → List V → List V → Hp → VK → Prop}
theorem pe_callBK (hc : CallKR X id ks r) (hg : Gl X x) (hm : X.mg x = none) (hv : bootBuiltins x = some (.builtin id)) (ha : PA X (e :: es) t) (hkw : PK X kws tk) (hn : x ≠ "__name__" := by decide) (hdb : (x == ("__debug__" : Str)) = false := by decide)
    (hks : (backToKw pos (keywordEach kws X.env)).filterMap (·.1) = ks := by rfl)
    (he : backTo pos (starEach (e :: es) X.env) = (false, eval e X.env) :: backTo pos (starEach es X.env) := by rfl)
    (hplain : (backTo pos (starEach (e :: es) X.env)).any (·.1) = false := by rfl)
    (hall : (backToKw pos (keywordEach kws X.env)).all (·.1.isSome) = true := by rfl)
    (hno : (backToKw pos (keywordEach kws X.env)).any (·.1.isNone) = false := by rfl) : PE X (.Call (.Name x p) (e :: es) kws pos) (tCBK r t tk) := by
  intro pins s σ H Q I h
  refine wpAny_Call_Name_kw (ld_blt I hg hm hv ?_ hn hdb)
  refine PyProof.Rows.callWith_kw (thn (ha pos pins s σ H _ I h) fun us s1 ⟨vs, H1, I1, r1, q1⟩ => ?_) he hplain hall hno
  refine thn (hkw pos pins s1 σ H1 _ I1 q1) fun ws s2 ⟨zs, H2, I2, rz, q2⟩ => ?_
  rw [hks]
  exact hc pins s2 σ H2 vs zs us ws Q I2 r1 rz q2
end
def KOut (za zb : Int) (ns out : List Int) : Prop := ∃ ps : List (Int × Int), ps.Perm (ns.map fun z => ((z - za) % zb, z)) ∧ out = ps.map (·.2) ∧ ps.Pairwise fun p q => p.1 ≤ q.1
def rSortK (X : Cx) (qual : Str) (params : Arguments) (body : Expr) (scope : Scope) (ia ib : Nat) : St → List V → List V → Hp → VK → Prop := fun σ vs zs H Q =>
  ∃ (l f c : Addr) (ns : List Int) (za zb : Int), vs = [.ref l] ∧ zs = [.ref f] ∧ SqL X.K H l (ns.map V.int) ∧ ns.length < 64 ∧ H f = some (lamO f qual params body scope X.env.cells c) ∧ H c = some (codeO c qual) ∧
    σ[ia]? = some (some (.int za)) ∧ σ[ib]? = some (some (.int zb)) ∧ 0 < zb ∧ ∀ (r : Addr) (out : List Int), H r = none → KOut za zb ns out → Q (.ref r) (upd H r (.lst (out.map V.int)))
theorem ints_vals : ∀ {ns : List Int} {vs : List Value}, Vals (ns.map V.int) vs → IntsAre vs ns
  | [], _, .nil => .nil
  | _ :: _, _, .cons ⟨t, e⟩ r => by subst e; exact .cons _ t (ints_vals r)
structure LamS (X : Cx) (qual : Str) (params : Arguments) (body : Expr) (scope : Scope) (y a b : Str) (ia ib : Nat) : Prop where
  bd : ∃ p1 p2 p3 p4 p5, body = .BinOp (.BinOp (.Name y p1) .Sub (.Name a p2) p3) .Mod (.Name b p4) p5
  bind : ∀ clos pm c ctv v, bindArgs (PySem.W.kla_fn "<lambda>" qual params body scope clos pm (.ref c) ctv) ⟨[v], []⟩ = pure [(y, v)]
  na : X.N[ia]? = some a
  nb : X.N[ib]? = some b
  ca : X.env.scope.names.lookup a = some .cell
  cb : X.env.scope.names.lookup b = some .cell
  ly : scope.names.lookup y = some .local
  fa : scope.names.lookup a = some .free
  fb : scope.names.lookup b = some .free
  ma : (a, NameKind.free) ∈ scope.names
  mb : (b, NameKind.free) ∈ scope.names
  nocell : ∀ z ∈ scope.names, z.2 ≠ .cell
  kind : scope.kind = .function
  co : scope.isCoroutine = false
  gen : scope.isGenerator = false
  dy : (y == ("__debug__" : Str)) = false
  da : (a == ("__debug__" : Str)) = false ∧ (a == ("__classdict__" : Str)) = false
  db : (b == ("__debug__" : Str)) = false ∧ (b == ("__classdict__" : Str)) = false
theorem call_sortK {X : Cx} {qual : Str} {params : Arguments} {body : Expr} {scope : Scope} {y a b : Str} {ia ib k : Nat} (S : LamS X qual params body scope y a b ia ib) (hr : Room k X.A) :
    CallKR X "sorted" ["key"] (rSortK X qual params body scope ia ib) := by
  intro pins s σ H vs zs us ws Q I r rz h
  obtain ⟨l, f, c, ns, za, zb, rfl, rfl, hl, h64, hf, hc, sa, sb, hb0, q⟩ := h
  obtain ⟨u1, rfl, r1⟩ := r.one
  obtain rfl : u1 = Value.ref l := r1
  obtain ⟨w1, rfl, rw1⟩ := rz.one
  obtain rfl : w1 = Value.ref f := rw1
  obtain ⟨its, rv, pl, hz⟩ := I.list hl
  have hI := ints_vals rv
  obtain ⟨m, F⟩ := I.fr
  obtain ⟨p1, p2, p3, p4, p5, rfl⟩ := S.bd
  obtain ⟨clos, pm, ctv, c1, c2, hfo⟩ := (I.hok f _ hf).1
  have hcr : s.heap.CodeRec (.ref c) qual := (I.hok c _ hc).1
  obtain ⟨m', hn', hlk⟩ := I.loc
  have cellA : ∃ ca ta, clos.lookup a = some ca ∧ s.heap.IsCell ca (some (.int za ta)) := by
    obtain ⟨u, ⟨ta, rfl⟩, lk⟩ := hlk ia a (.int za) S.na sa (.inr (.inl S.ca))
    obtain ⟨ca, e1⟩ := c2 a S.ma
    rcases lk with ⟨z, _⟩ | ⟨_, ca', e2, e3⟩
    · have z' : X.env.scope.names.lookup a = some .local := z
      rw [S.ca] at z'; cases z'
    · have e4 := c1 a ca e1
      rw [e2] at e4; cases e4
      exact ⟨ca, ta, e1, e3⟩
  have cellB : ∃ cb tb, clos.lookup b = some cb ∧ s.heap.IsCell cb (some (.int zb tb)) := by
    obtain ⟨u, ⟨tb, rfl⟩, lk⟩ := hlk ib b (.int zb) S.nb sb (.inr (.inl S.cb))
    obtain ⟨cb, e1⟩ := c2 b S.mb
    rcases lk with ⟨z, _⟩ | ⟨_, cb', e2, e3⟩
    · have z' : X.env.scope.names.lookup b = some .local := z
      rw [S.cb] at z'; cases z'
    · have e4 := c1 b cb e1
      rw [e2] at e4; cases e4
      exact ⟨cb, tb, e1, e3⟩
  obtain ⟨ca, ta, ea, ha⟩ := cellA
  obtain ⟨cb, tb, eb, hb⟩ := cellB
  have noL : ∀ b' (o : Obj), s.heap.get? b' = some o → (∀ es ep, o.data ≠ .dict es ep) → b' ≠ X.env.locals := fun b' o e d z => by
    obtain ⟨o', es, ep, e', d', _⟩ := F.ns
    rw [z, e'] at e; cases e
    exact d _ _ d'
  have len : (ns.map fun z => (z - za) % zb).length = its.length := by rw [List.length_map, hI.length]
  refine ksk_sorted (b := false) (f := .ref f) (kz := ns.map fun z => (z - za) % zb) F news_all pl.isList len (by rw [hI.length]; exact h64) (ksk_s1 _ _) (fun x => ksk_l1 _ _) (fun x => ksk_t1 _ _) ?_ ?_
  · -- one key
    intro i v k hv hk h tk own F' N'
    have at_ : ∀ b' u, b' ≠ X.env.locals → s.heap.get? b' = some u → h.get? b' = some u := fun b' u hne e => by
      cases z : X.base.get? b' with
      | some o =>
        have := I.bk b' o z
        rw [e] at this; cases this
        exact F'.keep b' _ z
      | none => exact (N' (b', u) (List.mem_append_left _ (mem_allNews hne z e))).1
    have hfo' := at_ f _ (noL f _ hfo (by intro es ep z; cases z)) hfo
    have hcr' : h.CodeRec (.ref c) qual := by
      obtain ⟨c0, o, vs0, t0, e0, ho, hd, hv0⟩ := hcr
      refine ⟨c0, o, vs0, t0, e0, at_ _ _ (noL _ _ ho (by rw [hd]; intro es ep z; cases z)) ho, hd, hv0⟩
    have ha' : h.IsCell ca (some (.int za ta)) := by
      obtain ⟨o, ho, hd⟩ := ha
      exact ⟨o, at_ _ _ (noL _ _ ho (by rw [hd]; intro es ep z; cases z)) ho, hd⟩
    have hb' : h.IsCell cb (some (.int zb tb)) := by
      obtain ⟨o, ho, hd⟩ := hb
      exact ⟨o, at_ _ _ (noL _ _ ho (by rw [hd]; intro es ep z; cases z)) ho, hd⟩
    obtain ⟨z, tz, rfl, rfl⟩ : ∃ z tz, v = .int z tz ∧ k = (z - za) % zb := by
      obtain ⟨n, t, e⟩ := hI.all v (List.mem_of_getElem? hv)
      refine ⟨n, t, e, ?_⟩
      rw [List.getElem?_map] at hk
      have hn := hI.nums
      have e1 : (its.map numOf)[i]? = some n := by rw [List.getElem?_map, hv, e]; rfl
      rw [hn] at e1
      rw [e1] at hk
      exact (Option.some.inj hk).symm
    have hroom : X.A.in1.in1.depth < recursionLimit := by
      have := hr.dp
      show X.A.depth < _
      omega
    refine wpAny_call (PySem.W.kla_callFunE hroom hfo' rfl S.co S.gen rfl hcr' ?_)
    rw [S.bind]
    refine wpAny_pure (wpAny_newFunctionEnv S.nocell (fun x hx => by rw [List.mem_singleton.mp hx]; exact S.ly) (fun h₁ hns hsb => ⟨((I.ok.mod.nolimit).keeps F'.keep).fresh _ hsb, ?_⟩) S.kind)
    have hk₁ : ∀ b o, h.get? b = some o → h₁.get? b = some o := fun b o e => hsb.extBut b o (Nat.ne_of_lt (Heap.lt_size e)) (Heap.get?_push_of_some _ e)
    have ha₁ := ha'.keeps hk₁
    have hb₁ := hb'.keeps hk₁
    refine PySem.W.kla_codeExpr ?_
    refine wpAny_BinOp (wpAny_BinOp ?_)
    refine wpAny_Name (wpAny_loadName_local S.kind S.ly hns (v := .int z tz) (by simp) ?_) S.dy
    refine wpAny_Name (wpAny_loadName_free S.kind S.fa ea ha₁ ?_ S.da.2) S.da.1
    refine sub_int ?_
    refine wpAny_Name (wpAny_loadName_free S.kind S.fb eb hb₁ ?_ S.db.2) S.db.1
    refine mod_int' (by omega) ?_
    rw [Int.fmod_eq_emod_of_nonneg _ (by omega)]
    refine KskEnd.intro (news' := allNews X.base s.heap X.env.locals ++ own) ⟨F'.ns.keeps hk₁, fun b o e => hk₁ b o (F'.keep b o e), F'.above⟩ (fun p hp => ⟨hk₁ _ _ (N' p hp).1, (N' p hp).2⟩) fun p hp => hp
  · -- the list
    intro D h' tk out cc F' N' hlt kout
    have hD := fresh_of_news I N' hlt
    obtain ⟨ps, hp, ho, hs⟩ := kout
    have hmem : ∀ p ∈ ps, ∃ n t, p.2 = .int n t := fun p hp' => by
      have := hp.mem_iff.mp hp'
      exact hI.all _ (List.of_mem_zip this).2
    have hz' : ((ns.map fun z => (z - za) % zb).zip its).map (fun p => (p.1, numOf p.2)) = ns.map fun z => ((z - za) % zb, z) := by
      have hn := hI.nums
      rw [← hn]
      have go : ∀ (l : List Value), ((((l.map numOf).map fun z => (z - za) % zb).zip l).map fun p => (p.1, numOf p.2)) = (l.map numOf).map fun z => ((z - za) % zb, z) := by
        intro l
        induction l with
        | nil => rfl
        | cons x l ih => simp only [List.map_cons, List.zip_cons_cons, ih]
      exact go its
    have vals : Vals ((ps.map fun p => (p.1, numOf p.2)).map (fun p => V.int p.2)) (ps.map Prod.snd) := by
      have go : ∀ (l : List (Int × Value)), (∀ p ∈ l, ∃ n t, p.2 = .int n t) → Vals ((l.map fun p => (p.1, numOf p.2)).map (fun p => V.int p.2)) (l.map Prod.snd) := by
        intro l
        induction l with
        | nil => intro _; exact .nil
        | cons x l ih =>
          intro hx
          refine .cons ?_ (ih fun p hp => hx p (List.mem_cons_of_mem _ hp))
          obtain ⟨n, t, e⟩ := hx x List.mem_cons_self
          show ∃ t, x.2 = Value.int (numOf x.2) t
          rw [e]; exact ⟨t, rfl⟩
      exact go ps hmem
    have hout : KOut za zb ns ((ps.map fun p => (p.1, numOf p.2)).map (·.2)) := by
      refine ⟨ps.map fun p => (p.1, numOf p.2), ?_, rfl, ?_⟩
      · rw [← hz']; exact hp.map _
      · refine List.pairwise_map.mpr (hs.imp fun {p q} z => ?_)
        simpa using z
    have hDo : h'.get? D = some (seqObj "list" out cc) := (N' _ List.mem_cons_self).1
    have I2 : Inv X pins σ (upd H D (.lst (((ps.map fun p => (p.1, numOf p.2)).map (·.2)).map V.int))) { s with heap := h', toks := tk } := by
      refine I.fromK F F' (fun p hp => N' p (List.mem_cons_of_mem _ hp)) hD ⟨?_, ps.map Prod.snd, cc, ?_, ?_⟩
      · have h1 := hp.length_eq
        rw [List.length_zip, len, Nat.min_self] at h1
        simp only [List.length_map]
        rw [h1, hI.length]
        exact Nat.le_trans (Nat.le_of_lt h64) (by decide)
      · have ev := vals; simp only [List.map_map] at ev ⊢; exact ev
      · rw [hDo, ← ho]
    exact ⟨.ref D, _, I2, rfl, q D _ (I.hok.freshN hD) hout⟩
end L2
namespace L2
open PySem PySem.Spec PyProof.Rows
def BmOk (mg : Str → Option Value) (base : Heap) : Prop := ∃ bm o, mg "__builtins__" = some (.ref bm) ∧ bm ≠ builtinsNs ∧ bm ≠ mainGlobals ∧ base.get? bm = some o ∧ o.cls = .type "module" ∧ o.dict = some builtinsNs ∧ o.data = .plain
def OnlyT (ts : List Addr) (H : Hp) : Prop := (∀ P ∈ ts, H P = some (.tbl #[])) ∧ ∀ b, H b = none ∨ (b ∈ ts ∧ H b = some (.tbl #[])) ∨ ∃ o xs, H b = some (.frz o (.lst xs))
theorem law_callT {P : Program} {w : World} {K : PySem.W.Frag} {mg mb : Str → Option Value} {CX : CXT} {k : Nat} {fa a : Addr} {fd : FuncData} {x : Str} {sp : Sp} {s₁ : Shared} {vs : List Value} {ns : List Int} {ts : List Addr}
    (KX : K.In s₁.heap) (hns : s₁.heap.Ns mainGlobals mg) (hb : s₁.heap.Ns builtinsNs mb) (hbb : ∀ x : Str, x ≠ "__name__" → mb x = bootBuiltins x) (hlim : s₁.heap.NoLimit) (hg : s₁.gens = #[]) (hbm : BmOk mg s₁.heap)
    (hts : ∀ P ∈ ts, s₁.heap.get? P = some (PySem.W.tabObj #[])) (hcd : ∀ P ∈ ts, ∃ c, PySem.W.codeHdIn K c P = true) (hkt : ∀ P ∈ ts, K.lookup P = none)
    (ha : s₁.heap.get? a = some { cls := .type "list", data := .seq vs.toArray }) (hi : IntsAre vs ns) (hl : ns.length ≤ sizeLine) (hr : Room k callerA)
    (F : ∀ base : Heap, K.In base → base.Ns mainGlobals mg → BmOk mg base → FnOk P w K mg base CX k fa fd [x] sp) (hbind : ∀ (s : Shared) (u : Value), BindsTo s fd ⟨[u], []⟩ [(x, u)])
    (hsp : ∀ H : Hp, OnlyT ts H → SqL K H a (ns.map V.int) → sp [.ref a] H (fun v _ => v = .bl true) fun _ _ _ => False)
    (hCX : ∀ H e s', CX [] H s₁ (fun _ _ _ => False) e s' → False) :
    codeAny (model P w) callerA (.call (.ref fa) ⟨[.ref a], []⟩) (fun r s' => r = .ok (.ret (.bool true)) ∧ OldK s₁.heap s'.heap ∧ s'.os = s₁.os ∧ AllBare s'.gens) s₁ := by
  have rv := vals_ints hi
  have lenV := hi.length
  have hat : a ∉ ts := fun z => by
    have := hts a z
    rw [ha] at this; cases this
  have core : ∀ H : Hp, OnlyT ts H → SqL K H a (ns.map V.int) → HOk P w H s₁.heap → (∀ b, H b ≠ none → b = a ∨ b ∈ ts) → (H a ≠ none → K.lookup a = none) →
      codeAny (model P w) callerA (.call (.ref fa) ⟨[.ref a], []⟩) (fun r s' => r = .ok (.ret (.bool true)) ∧ OldK s₁.heap s'.heap ∧ s'.os = s₁.os ∧ AllBare s'.gens) s₁ := by
    intro H hO hS hok hA hK
    have base_of : ∀ {b : Addr} {o : Obj}, s₁.heap.get? b = some o → H b = none → (hidT s₁.heap H).get? b = some o := fun e n => hidT_get e n
    have noA : ∀ {b : Addr} {o : Obj}, s₁.heap.get? b = some o → (∀ v n, o.data ≠ .seq v n) → (∀ v, o.data ≠ .fields v) → H b = none := fun {b o} e d1 d2 => by
      cases q : H b with
      | none => rfl
      | some u =>
        rcases hA b (by rw [q]; simp) with e' | e'
        · subst e'
          rw [ha] at e; cases e
          exact absurd rfl (d1 _ _)
        · rw [hts b e'] at e; cases e
          exact absurd rfl (d2 _)
    have nsK : ∀ {b : Addr} {m : Str → Option Value}, s₁.heap.Ns b m → (hidT s₁.heap H).Ns b m := fun {b m} ⟨o, es, ep, e, d, r⟩ => ⟨o, es, ep, base_of e (noA e (by rw [d]; intro v n z; cases z) (by rw [d]; intro v z; cases z)), d, r⟩
    have hKb : K.In (hidT s₁.heap H) := fun b o e => base_of (KX b o e) (by
      cases q : H b with
      | none => rfl
      | some u =>
        rcases hA b (by rw [q]; simp) with e' | e'
        · subst e'
          rw [hK (by rw [q]; simp)] at e; cases e
        · rw [hkt b e'] at e; cases e)
    have hB : BmOk mg (hidT s₁.heap H) := by
      obtain ⟨bm, o, b1, b2, b3, b4, b5, b6, b7⟩ := hbm
      exact ⟨bm, o, b1, b2, b3, base_of b4 (noA b4 (by rw [b7]; intro v n z; cases z) (by rw [b7]; intro v z; cases z)), b5, b6, b7⟩
    have hM : Mod K mg (hidT s₁.heap H) := ⟨hKb, nsK hns, ⟨mb, nsK hb, hbb⟩, let ⟨mc, h1, h2⟩ := hlim; ⟨mc, nsK h1, h2⟩⟩
    have e0 : Env0 P w K mg (hidT s₁.heap H) callerA [] s₁ H := ⟨rfl, hM, fun b o e => of_hidT e, Nat.le_of_eq (hidT_size _ _), trivial, fun b hb => absurd (show b ∈ ([] : List Addr) from hb) (by simp), hok, .of_eq hg⟩
    refine codeAny_mono ((F _ hKb (nsK hns) hB).run callerA [] s₁ H ⟨[.ref a], []⟩ [.ref a] [.ref a] _ _ hr e0 (hbind s₁ (.ref a)) (.cons rfl .nil) (hsp H hO hS)) fun r s' h => ?_
    cases r with
    | error e => exact (hCX H e s' h).elim
    | ok fl =>
      cases fl with
      | next => exact False.elim h
      | brk => exact False.elim h
      | cont => exact False.elim h
      | ret u =>
        obtain ⟨v, H', os, bare, un, hok', r', q⟩ := h
        have q' : v = .bl true := q
        subst q'
        obtain rfl : u = Value.bool true := r'
        refine ⟨rfl, ⟨fun b o e => ?_, fun b o e => un.there b o e (by simp)⟩, os, bare⟩
        cases q : H b with
        | none => exact .inl (un.keep b o e q (by intro z; exact absurd (show b ∈ ([] : List Addr) from z) (by simp)) (by simp))
        | some u =>
          rcases hO.2 b with z | ⟨zt, z⟩ | ⟨ob, xs, z⟩
          · rw [q] at z; cases z
          · obtain ⟨more, z2⟩ := un.tbls b _ z
            have e1 := hts b zt
            rw [e] at e1; cases e1
            have e2 : s'.heap.get? b = some { cls := .none, data := .fields (#[] ++ more) } := hok' b _ z2
            obtain ⟨c, hc⟩ := hcd b zt
            obtain ⟨oc, vsc, _, _, _, _, _, _, _, g1, g2, g3, g4, _⟩ := PySem.W.codeHd_of_K KX hc
            exact .inr (.inl ⟨⟨c, oc, vsc, g1, g2, g3, g4⟩, rfl, #[], more, rfl, e2⟩)
          · have z2 := un.frzs b ob _ z
            obtain ⟨e1, _⟩ := hok b _ z
            obtain ⟨e2, _⟩ := hok' b _ z2
            rw [e] at e1; cases e1
            exact .inl e2
  have tabOk : ∀ (H : Hp), (∀ P ∈ ts, H P = some (.tbl #[])) → True := fun _ _ => trivial
  classical
  cases hk : K.lookup a with
  | some o =>
    have e := KX a o hk
    rw [ha] at e
    cases e
    refine core (fun b => if b ∈ ts then some (.tbl #[]) else none) ⟨fun P hP => if_pos hP, fun b => ?_⟩ (.inr ⟨_, vs.toArray, _, hk, rfl, rfl, rfl, by rw [List.size_toArray, lenV]; exact hl, by simpa using rv⟩) (fun b u z => ?_) (fun b z => ?_) fun z => absurd (if_neg hat) z
    · by_cases hb : b ∈ ts
      · exact .inr (.inl ⟨hb, if_pos hb⟩)
      · exact .inl (if_neg hb)
    · by_cases hb : b ∈ ts
      · have z' := (if_pos hb).symm.trans z
        cases z'
        exact hts b hb
      · have z' := (if_neg hb).symm.trans z
        cases z'
    · by_cases hb : b ∈ ts
      · exact .inr hb
      · exact absurd (if_neg hb) z
  | none =>
    refine core (fun b => if b = a then some (.frz { cls := .type "list", data := .seq vs.toArray } (.lst (ns.map V.int))) else if b ∈ ts then some (.tbl #[]) else none) ⟨fun P hP => ?_, fun b => ?_⟩ (.inl (.inr ⟨{ cls := .type "list", data := .seq vs.toArray }, if_pos rfl⟩)) (fun b u z => ?_) (fun b z => ?_) fun _ => hk
    · have : P ≠ a := fun z => hat (z ▸ hP)
      show (if P = a then _ else if P ∈ ts then _ else _) = _
      rw [if_neg this, if_pos hP]
    · by_cases hb : b = a
      · exact .inr (.inr ⟨_, _, if_pos hb⟩)
      · by_cases ht : b ∈ ts
        · exact .inr (.inl ⟨ht, by show (if b = a then _ else if b ∈ ts then _ else _) = _; rw [if_neg hb, if_pos ht]⟩)
        · exact .inl (by show (if b = a then _ else if b ∈ ts then _ else _) = _; rw [if_neg hb, if_neg ht])
    · by_cases hb : b = a
      · have z' := (if_pos hb).symm.trans z
        cases z'
        subst hb
        exact ⟨ha, by rw [List.length_map]; exact hl, vs, _, rv, ha⟩
      · have z1 : (if b ∈ ts then some (HO.tbl #[]) else none) = some u := (if_neg hb).symm.trans z
        by_cases ht : b ∈ ts
        · rw [if_pos ht] at z1; cases z1
          exact hts b ht
        · rw [if_neg ht] at z1; cases z1
    · by_cases hb : b = a
      · exact .inl hb
      · by_cases ht : b ∈ ts
        · exact .inr ht
        · exact absurd (by show (if b = a then _ else if b ∈ ts then _ else _) = _; rw [if_neg hb, if_neg ht]) z
theorem walk_ofT {l : PySem.W.OpenLaw} {n k : Nat} {q : Program} {loose : List Str} {XP : (Str → Option Value) → Heap → Prop} {YP : World → Heap → Prop} {d : DefRec} {K : Params → PySem.W.Frag} {CX : World → CXT} {sp : World → Sp} {x : Str} {ts : List Addr}
    (hn : l.most = some n) (hn2 : n ≤ sizeLine) (hdf : d.params.defaults = []) (hr : Room k callerA)
    (hY : ∀ (w : World) (h : Heap), YP w h → (K w.params).In h) (hT : ∀ (w : World) (h : Heap), YP w h → ∀ P ∈ ts, h.get? P = some (PySem.W.tabObj #[]))
    (hcd : ∀ (w : World), ∀ P ∈ ts, ∃ c, PySem.W.codeHdIn (K w.params) c P = true) (hkt : ∀ (w : World), ∀ P ∈ ts, (K w.params).lookup P = none)
    (F : ∀ (w : World) (mg : Str → Option Value) (fa : Addr) (h : Heap), (K w.params).In h → h.Ns mainGlobals mg → mg d.name = some (.ref fa) →
      ∃ fd : FuncData, (∀ (s : Shared) (u : Value), BindsTo s fd ⟨[u], []⟩ [(x, u)]) ∧
        ∀ base : Heap, (K w.params).In base → base.Ns mainGlobals mg → BmOk mg base → FnOk l.prog w (K w.params) mg base (CX w) k fa fd [x] (sp w))
    (hsp : ∀ (w : World) (H : Hp) (a : Addr) (ns : List Int), ns.length ≤ n → OnlyT ts H → SqL (K w.params) H a (ns.map V.int) → sp w [.ref a] H (fun v _ => v = .bl true) fun _ _ _ => False)
    (hCX : ∀ (w : World) (H : Hp) (s : Shared) (e : Value) (s' : Shared), CX w [] H s (fun _ _ _ => False) e s' → False) :
    PySem.W.WalkO q loose XP YP l.row.toRowW d [] (fun f vs => PySem.call f vs) := by
  refine Att.attach_call hn hdf fun w s₀ s₁ mg mb fa o pm cd doc a vs ns G Y ho hd hcd' hmg hobj hints hlen hg => ?_
  have KX := hY w _ Y
  obtain ⟨fd, hb, hF⟩ := F w mg fa _ KX G.T.g hmg
  have hB : BmOk mg s₁.heap := by
    obtain ⟨bm, ob, b1, b2, b3, b4, b5, b6⟩ := G.T.bmain
    refine ⟨bm, ob, b1, b2, fun z => ?_, b3, b4, b5, b6⟩
    obtain ⟨o', es, ep, e, hd', _⟩ := G.T.g
    rw [z, e] at b3; cases b3; rw [hd'] at b6; cases b6
  exact law_callT KX G.T.g G.T.b G.T.builtins G.T.nolimit hg hB (hT w _ Y) (hcd w) (hkt w) hobj hints (Nat.le_trans hlen hn2) hr hF hb (fun H hO hS => hsp w H a ns hlen hO hS) fun H e s' => hCX w H s₁ e s'
structure FunC (K : PySem.W.Frag) (x qual : Str) (st : Stmt) (f : Addr) (fd : FuncData) (c : Addr) : Prop where
  ex : ∃ (oc : Value) (od : Option Addr) (kV doc pm : Value) (an : Option Addr) (ct : Value) (osl : Array (Option Value)),
    fd = PySem.W.fnOf x qual (defArgs st) (defBody st) (defScope st) .none kV doc pm an (.ref c) ct ∧ K.lookup f = some ⟨oc, od, .func fd, osl⟩ ∧ PySem.W.codeIn K (.ref c) qual = true
  kp : PySem.W.keepIn K (.ref f) = true
theorem FunC.fun {K : PySem.W.Frag} {x qual : Str} {st : Stmt} {f : Addr} {fd : FuncData} {c : Addr} (F : FunC K x qual st f fd c) : Fun K x qual st f fd := by
  obtain ⟨oc, od, kV, doc, pm, an, ct, osl, e, lk, hcd⟩ := F.ex
  exact ⟨⟨oc, od, kV, doc, pm, an, _, ct, osl, e, lk, hcd⟩, F.kp⟩
section
variable {P : Program} {w : World} {K : PySem.W.Frag} {mg : Str → Option Value} {base : Heap}
theorem FunC.ok {x qual : Str} {st : Stmt} {f : Addr} {fd : FuncData} {c : Addr} {N ps : List Str} {k : Nat} {sp : Sp} (F : FunC K x qual st f fd c) (S : FnScope N ps (defScope st)) (len : ∀ vs H Q E, sp vs H Q E → vs.length = ps.length)
    (hbody : ∀ (A : Around) (outer : List Env) (s : Shared) (H : Hp) (vs : List V) (Q : VK) (E : XK), Room k (A.deeper (envOfC qual (defScope st) s.heap.objs.size f (.ref c))) → sp vs H Q E →
      ∃ t, PSs (cxOf CX0 P w K mg base N qual (defScope st) f (.ref c) A outer s H E).nox (defBody st) t ∧ t { nx := fun _ H' => Q .non H', rt := Q } (start N vs) H) : FnOk P w K mg base CX0 (k + 1) f fd ps sp := by
  obtain ⟨oc, od, kV, doc, pm, an, ct, osl, rfl, lk, hcd⟩ := F.ex
  refine fn_of lk hcd S len fun A outer s H vs Q E hr hsp => ?_
  obtain ⟨t, h, q⟩ := hbody A outer s H vs Q E hr hsp
  exact ⟨t, h.nox, q⟩
theorem funC_mk {x qual : Str} {st : Stmt} {f c : Addr} {oc : Value} {od an : Option Addr} {osl : Array (Option Value)} {kV doc pm ct : Value} (l : K.lookup f = some ⟨oc, od, .func (PySem.W.fnOf x qual (defArgs st) (defBody st) (defScope st) .none kV doc pm an (.ref c) ct), osl⟩)
    (hcd : PySem.W.codeIn K (.ref c) qual = true) (kp : PySem.W.keepIn K (.ref f) = true) : FunC K x qual st f (PySem.W.fnOf x qual (defArgs st) (defBody st) (defScope st) .none kV doc pm an (.ref c) ct) c := ⟨⟨oc, od, kV, doc, pm, an, ct, osl, rfl, l, hcd⟩, kp⟩
theorem lamC_of {N : List Str} {qual : Str} {scope : Scope} {f c P' : Addr} {CX : CXT} {A : Around} {outer : List Env} {s : Shared} {H : Hp} {E : XK} (kb : K.In base) (hb : BmOk mg base) (hc : PySem.W.codeHdIn K c P' = true) :
    LamC (cxOf CX P w K mg base N qual scope f (.ref c) A outer s H E).nox c P' := ⟨rfl, PySem.W.codeHd_of_K kb hc, hb⟩
end
end L2
namespace L2
open PySem PySem.Spec PyProof.Rows
def blkName (sc scX : Scope) (y : Str × NameKind) : Bool := match y.2 with
  | .cell => (match sc.names.lookup y.1 with | some .cell => true | _ => false)
  | .local => (match sc.names.lookup y.1 with | some .local => true | _ => false)
  | .free => (match scX.names.lookup y.1 with | some .cell => true | some .free => true | _ => false)
  | _ => true
def blkSrc (NB : List Str) (src : List (Option Nat)) (sc : Scope) (N : List Str) (i : Nat) : Bool := match NB[i]?, src[i]? with
  | some x, some (some j) => (N[j]? == some x) && (match sc.names.lookup x with | some .free => true | _ => false)
  | _, _ => true
def blkKind (sc : Scope) : Bool := match sc.kind with | .function => true | _ => false
def blkChk (NB : List Str) (src : List (Option Nat)) (sc scX : Scope) (N : List Str) : Bool :=
  blkKind sc && decide NB.Nodup && (src.length == NB.length) && (sc.names.all (blkName sc scX)) && (List.range NB.length).all (blkSrc NB src sc N)
theorem blk_of {NB : List Str} {src : List (Option Nat)} {sc : Scope} {X : Cx} (h : blkChk NB src sc X.env.scope X.N = true) : BlkScope NB src sc X := by
  unfold blkChk at h
  simp only [Bool.and_eq_true, decide_eq_true_eq, beq_iff_eq, List.all_eq_true] at h
  obtain ⟨⟨⟨⟨h1, h2⟩, h3⟩, h4⟩, h5⟩ := h
  refine ⟨?_, h2, h3, fun y hy z => ?_, fun y hy z => ?_, fun y hy z => ?_, fun i x j e1 e2 => ?_⟩
  · unfold blkKind at h1
    split at h1
    · assumption
    · cases h1
  · have := h4 y hy
    obtain ⟨n, k⟩ := y
    obtain rfl : k = .cell := z
    dsimp only [blkName] at this ⊢
    split at this
    · assumption
    · cases this
  · have := h4 y hy
    obtain ⟨n, k⟩ := y
    obtain rfl : k = .local := z
    dsimp only [blkName] at this ⊢
    split at this
    · assumption
    · cases this
  · have := h4 y hy
    obtain ⟨n, k⟩ := y
    obtain rfl : k = .free := z
    dsimp only [blkName] at this ⊢
    split at this
    · exact .inl (by assumption)
    · exact .inr (by assumption)
    · cases this
  · have hi : i < NB.length := (List.getElem?_eq_some_iff.mp e1).1
    have := h5 i (List.mem_range.mpr hi)
    unfold blkSrc at this
    rw [e1, e2] at this
    simp only [Bool.and_eq_true, beq_iff_eq] at this
    refine ⟨this.1, ?_⟩
    have t2 := this.2
    split at t2
    · assumption
    · cases t2
theorem comp_list {K : PySem.W.Frag} {a D : Addr} {xs : List V} {g : TG} {tt : TT} {te : TE} {fin : Hp → Prop} {σB : St} {H0 : Hp} (Pv : Nat → List V → St → Hp → Prop) (h0 : Pv 0 [] σB H0)
    (hl : ∀ i ys σ H, i ≤ xs.length → Pv i ys σ H → SqL K H a xs)
    (hs : ∀ i x ys σ H (Kt : V → St → Hp → Prop) (Kf : St → Hp → Prop), xs[i]? = some x → Pv i ys σ H →
      (∀ v σ2 H4, H4 D = some (.lst ys) → ys.length < sizeLine → Pv (i + 1) (ys ++ [v]) σ2 (upd H4 D (.lst (ys ++ [v]))) → Kt v σ2 H4) → (∀ σ2 H3, Pv (i + 1) ys σ2 H3 → Kf σ2 H3) →
      g x σ H fun σ2 H2 => tt σ2 H2 fun b H3 => if b = true then te σ2 H3 fun v H4 => Kt v σ2 H4 else Kf σ2 H3)
    (hd : ∀ ys σ H, Pv xs.length ys σ H → fin H) : CompW (Itl K a) g tt te D fin σB H0 := by
  refine ⟨fun i m σ H => m = xs.length - i ∧ i ≤ xs.length ∧ ∃ ys, Pv i ys σ H, ⟨xs.length, by simp, Nat.zero_le _, [], h0⟩, ?_⟩
  rintro i m σ H ⟨rfl, hi, ys, p⟩
  have q := hl i ys σ H hi p
  by_cases hlt : i < xs.length
  · refine .inr ⟨⟨xs, xs[i], q, by simp [hlt]⟩, ?_⟩
    rintro x H' ⟨rfl, y⟩
    exact hs i x ys σ _ (fun v σ2 H4 => ∃ ys, H4 D = some (.lst ys) ∧ ys.length < sizeLine ∧ ∃ m', m' < xs.length - i ∧ m' = xs.length - (i + 1) ∧ i + 1 ≤ xs.length ∧ ∃ ys', Pv (i + 1) ys' σ2 (upd H4 D (.lst (ys ++ [v]))))
      (fun σ2 H3 => ∃ m', m' < xs.length - i ∧ m' = xs.length - (i + 1) ∧ i + 1 ≤ xs.length ∧ ∃ ys', Pv (i + 1) ys' σ2 H3) (y xs q) p
      (fun v σ2 H4 z1 z2 z3 => ⟨ys, z1, z2, _, by omega, rfl, hlt, _, z3⟩) (fun σ2 H3 z => ⟨_, by omega, rfl, hlt, _, z⟩)
  · have e : i = xs.length := by omega
    subst e
    exact .inl ⟨⟨xs, q, Nat.le_refl _⟩, hd ys σ H p⟩
theorem comp_range {lo : Int} {n : Nat} {D : Addr} {g : TG} {tt : TT} {te : TE} {fin : Hp → Prop} {σB : St} {H0 : Hp} (Pv : Nat → List V → St → Hp → Prop) (h0 : Pv 0 [] σB H0)
    (hs : ∀ i ys σ H (Kt : V → St → Hp → Prop) (Kf : St → Hp → Prop), i < n → Pv i ys σ H →
      (∀ v σ2 H4, H4 D = some (.lst ys) → ys.length < sizeLine → Pv (i + 1) (ys ++ [v]) σ2 (upd H4 D (.lst (ys ++ [v]))) → Kt v σ2 H4) → (∀ σ2 H3, Pv (i + 1) ys σ2 H3 → Kf σ2 H3) →
      g (.int (lo + i)) σ H fun σ2 H2 => tt σ2 H2 fun b H3 => if b = true then te σ2 H3 fun v H4 => Kt v σ2 H4 else Kf σ2 H3)
    (hd : ∀ ys σ H, Pv n ys σ H → fin H) : CompW (Itr lo n) g tt te D fin σB H0 := by
  refine ⟨fun i m σ H => m = n - i ∧ i ≤ n ∧ ∃ ys, Pv i ys σ H, ⟨n, by simp, Nat.zero_le _, [], h0⟩, ?_⟩
  rintro i m σ H ⟨rfl, hi, ys, p⟩
  by_cases hlt : i < n
  · refine .inr ⟨hlt, ?_⟩
    rintro x H' ⟨rfl, rfl⟩
    exact hs i ys σ _ (fun v σ2 H4 => ∃ ys, H4 D = some (.lst ys) ∧ ys.length < sizeLine ∧ ∃ m', m' < n - i ∧ m' = n - (i + 1) ∧ i + 1 ≤ n ∧ ∃ ys', Pv (i + 1) ys' σ2 (upd H4 D (.lst (ys ++ [v]))))
      (fun σ2 H3 => ∃ m', m' < n - i ∧ m' = n - (i + 1) ∧ i + 1 ≤ n ∧ ∃ ys', Pv (i + 1) ys' σ2 H3) hlt p
      (fun v σ2 H4 z1 z2 z3 => ⟨ys, z1, z2, _, by omega, rfl, hlt, _, z3⟩) (fun σ2 H3 z => ⟨_, by omega, rfl, hlt, _, z⟩)
  · have e : i = n := by omega
    subst e
    exact .inl ⟨Nat.le_refl _, hd ys σ H p⟩
end L2
namespace L2
open PySem PySem.Spec PyProof.Rows
section
variable {κ : Type} [DecidableEq κ]
def valV (kvs : List (κ × V)) (k : κ) : Option V := (kvs.find? fun kv => decide (kv.1 = k)).map (·.2)
def putK (kvs : List (κ × V)) (k : κ) (v : V) : List (κ × V) :=
  if (kvs.any fun kv => decide (kv.1 = k)) = true then kvs.map (fun kv => if kv.1 = k then (kv.1, v) else kv) else kvs ++ [(k, v)]
theorem valV_pos {p : κ × V} {r : List (κ × V)} {k : κ} (e : p.1 = k) : valV (p :: r) k = some p.2 := by simp [valV, List.find?_cons, e]
theorem valV_neg {p : κ × V} {r : List (κ × V)} {k : κ} (e : ¬ p.1 = k) : valV (p :: r) k = valV r k := by simp [valV, List.find?_cons, e]
theorem valV_any (k : κ) : ∀ kvs : List (κ × V), (kvs.any fun kv => decide (kv.1 = k)) = (valV kvs k).isSome
  | [] => rfl
  | p :: r => by
    rw [List.any_cons]
    by_cases e : p.1 = k
    · simp only [valV_pos e, decide_eq_true e, Bool.true_or, Option.isSome_some]
    · rw [valV_neg e, decide_eq_false e, Bool.false_or]; exact valV_any k r
theorem length_putK (kvs : List (κ × V)) (k : κ) (v : V) : (putK kvs k v).length ≤ kvs.length + 1 := by
  unfold putK
  split
  · rw [List.length_map]; omega
  · rw [List.length_append, List.length_cons, List.length_nil]; omega
theorem putK_new {kvs : List (κ × V)} {k : κ} (v : V) (h : valV kvs k = none) : putK kvs k v = kvs ++ [(k, v)] := by
  unfold putK
  rw [valV_any, h]
  exact if_neg (by decide)
theorem RelO.isSome_eq {o : Option V} {u : Option Value} (r : RelO o u) : o.isSome = u.isSome := by
  cases o with
  | none => cases u with
    | none => rfl
    | some _ => exact (show False from r).elim
  | some _ => cases u with
    | none => exact (show False from r).elim
    | some _ => rfl
theorem KV.val {kvs : List (κ × V)} {vs : List (κ × Value)} (r : KV kvs vs) (k : κ) : RelO (valV kvs k) (valueAt vs k) := by
  unfold KV at r
  induction r with
  | nil => exact True.intro
  | @cons p q ps qs h t ih =>
    obtain ⟨h1, h2⟩ := h
    by_cases e : p.1 = k
    · have e' : q.1 = k := h1.symm.trans e
      have b : valueAt (q :: qs) k = some q.2 := by simp [valueAt, List.find?_cons, e']
      rw [valV_pos e, b]; exact h2
    · have e' : ¬ q.1 = k := fun z => e (h1.trans z)
      have b : valueAt (q :: qs) k = valueAt qs k := by simp [valueAt, List.find?_cons, e']
      rw [valV_neg e, b]; exact ih
theorem KV.any {kvs : List (κ × V)} {vs : List (κ × Value)} (r : KV kvs vs) (k : κ) : (kvs.any fun kv => decide (kv.1 = k)) = vs.any fun kv => decide (kv.1 = k) := by
  unfold KV at r
  induction r with
  | nil => rfl
  | cons h t ih => rw [List.any_cons, List.any_cons, ih, h.1]
theorem KV.repl {kvs : List (κ × V)} {vs : List (κ × Value)} (r : KV kvs vs) (k : κ) {y : V} {u : Value} (ry : RelV y u) :
    KV (kvs.map fun kv => if kv.1 = k then (kv.1, y) else kv) (vs.map fun kv => if kv.1 = k then (kv.1, u) else kv) := by
  unfold KV at r ⊢
  induction r with
  | nil => exact .nil
  | @cons p q ps qs h t ih =>
    rw [List.map_cons, List.map_cons]
    refine .cons ?_ ih
    obtain ⟨h1, h2⟩ := h
    by_cases e : p.1 = k
    · rw [if_pos e, if_pos (h1.symm.trans e)]; exact ⟨h1, ry⟩
    · rw [if_neg e, if_neg (fun z => e (h1.trans z))]; exact ⟨h1, h2⟩
theorem KV.put {kvs : List (κ × V)} {vs : List (κ × Value)} (r : KV kvs vs) (k : κ) {y : V} {u : Value} (ry : RelV y u) : KV (putK kvs k y) (stored vs k u) := by
  unfold putK stored
  rw [r.any k]
  by_cases e : (vs.any fun kv => decide (kv.1 = k)) = true
  · rw [if_pos e, if_pos e]; exact r.repl k ry
  · rw [if_neg e, if_neg e]; exact Paired.snoc r ⟨rfl, ry⟩
theorem KV.length {kvs : List (κ × V)} {vs : List (κ × Value)} (r : KV kvs vs) : kvs.length = vs.length := Paired.length r
end
theorem kV_is {P : Program} {w : World} {k : Key} {u : Value} (r : RelV (kV k) u) : (mixKind P w).is k u = true := by
  cases k with
  | inl i => obtain ⟨t, e⟩ := (show ∃ t, u = Value.int i t from r); subst e; exact mixKind_int P w i t
  | inr x => obtain ⟨t, e⟩ := (show ∃ t, u = Value.str x t from r); subst e; exact mixKind_str P w x t
theorem items_are {P : Program} {w : World} : ∀ {ks : List Key} {us : List Value}, Vals (ks.map kV) us → ItemsAre (mixKind P w) ks us
  | [], _, r => by rw [List.map_nil] at r; cases r; exact .nil
  | k :: ks, _, r => by
    rw [List.map_cons] at r
    cases r with
    | cons h t => exact .cons (kV_is h) (items_are t)
abbrev KT (H : Hp) : List (List Key × V) → List (List Key × Addr × Value) → Prop := Paired fun p q => p.1 = q.1 ∧ H q.2.1 = some (.tup (p.1.map kV)) ∧ RelV p.2 q.2.2
theorem KT.val {H : Hp} {kvs : List (List Key × V)} {xs : List (List Key × Addr × Value)} (r : KT H kvs xs) (k : List Key) : RelO (valV kvs k) ((atKey xs k).map (·.2)) := by
  induction r with
  | nil => exact True.intro
  | @cons p q ps qs h t ih =>
    obtain ⟨h1, _, h2⟩ := h
    by_cases e : p.1 = k
    · have e' : q.1 = k := h1.symm.trans e
      have b : atKey (q :: qs) k = some q.2 := by simp [atKey, List.find?_cons, e']
      rw [valV_pos e, b]; exact h2
    · have e' : ¬ q.1 = k := fun z => e (h1.trans z)
      have b : atKey (q :: qs) k = atKey qs k := by simp [atKey, List.find?_cons, e']
      rw [valV_neg e, b]; exact ih
theorem KT.repl {H : Hp} {kvs : List (List Key × V)} {xs : List (List Key × Addr × Value)} (r : KT H kvs xs) (k : List Key) {y : V} {u : Value} (ry : RelV y u) :
    KT H (kvs.map fun kv => if kv.1 = k then (kv.1, y) else kv) (xs.map (putAt k u)) := by
  induction r with
  | nil => exact .nil
  | @cons p q ps qs h t ih =>
    rw [List.map_cons, List.map_cons]
    refine .cons ?_ ih
    obtain ⟨h1, h2, h3⟩ := h
    unfold putAt
    by_cases e : p.1 = k
    · rw [if_pos e, if_pos (h1.symm.trans e)]; exact ⟨h1, h2, ry⟩
    · rw [if_neg e, if_neg (fun z => e (h1.trans z))]; exact ⟨h1, h2, h3⟩
theorem KT.put {H : Hp} {kvs : List (List Key × V)} {xs : List (List Key × Addr × Value)} (r : KT H kvs xs) (k : List Key) {b : Addr} {y : V} {u : Value} (hb : H b = some (.tup (k.map kV))) (ry : RelV y u) :
    KT H (putK kvs k y) (storedH xs k b u) := by
  have e : (kvs.any fun kv => decide (kv.1 = k)) = (atKey xs k).isSome := by
    rw [valV_any, (r.val k).isSome_eq, Option.isSome_map]
  unfold putK storedH
  rw [e]
  by_cases q : (atKey xs k).isSome = true
  · rw [if_pos q, if_pos q]; exact r.repl k ry
  · rw [if_neg q, if_neg q]; exact Paired.snoc r ⟨rfl, hb, ry⟩
theorem KT.keeps {H H' : Hp} {kvs : List (List Key × V)} {xs : List (List Key × Addr × Value)} (r : KT H kvs xs) (ht : ∀ b ys, H b = some (.tup ys) → H' b = some (.tup ys)) : KT H' kvs xs :=
  Paired.mapP r fun _ _ z => ⟨z.1, ht _ _ z.2.1, z.2.2⟩
section
variable {P : Program} {w : World} {H : Hp} {h : Heap} {a : Addr}
theorem rd_of {u : HO} (ok : HOk P w H h) (e : Rd H a u) : ObjOk P w H h a u := e.ok ok
theorem dk_rd {kvs : List (Key × V)} (ok : HOk P w H h) (e : Rd H a (.dK kvs)) : kvs.length ≤ sizeLine ∧ (a == sysModules) = false ∧ ∃ vs, KV kvs vs ∧ h.DictOf (mixKind P w) a vs :=
  show ObjOk P w H h a (.dK kvs) from rd_of ok e
theorem dk_of {kvs : List (Key × V)} (ok : HOk P w H h) (e : H a = some (.dK kvs)) : kvs.length ≤ sizeLine ∧ (a == sysModules) = false ∧ ∃ vs, KV kvs vs ∧ h.DictOf (mixKind P w) a vs := dk_rd ok (.inl e)
theorem key_of {ks : List Key} (ok : HOk P w H h) (e : H a = some (.tup (ks.map kV))) : (tupleKind (mixKind P w)).is h ks a := by
  obtain ⟨_, its, r, o, h1, h2, n, h3⟩ := (show ObjOk P w H h a (.tup (ks.map kV)) from ok a _ e)
  exact ⟨o, its.toArray, n, h1, h2, h3, by simpa using items_are r⟩
theorem dt_rd {kvs : List (List Key × V)} (ok : HOk P w H h) (e : Rd H a (.dT kvs)) : kvs.length ≤ sizeLine ∧ (a == sysModules) = false ∧
    ∃ xs, KT H kvs xs ∧ h.DictOfH (tupleKind (mixKind P w)) a xs := by
  obtain ⟨z, y, xs, r, o, es, ep, h1, h2, h3, h4, h5⟩ := (show ObjOk P w H h a (.dT kvs) from rd_of ok e)
  refine ⟨z, y, xs, r, o, es, ep, h1, h2, h3, h4, fun x hx => ?_, h5⟩
  have all : ∀ {l : List (List Key × V)} {m : List (List Key × Addr × Value)}, KT H l m → ∀ x ∈ m, (tupleKind (mixKind P w)).is h x.1 x.2.1 := by
    intro l m q
    induction q with
    | nil => intro x hx; exact nomatch hx
    | @cons p q ps qs hq t ih =>
      intro x hx
      rcases List.mem_cons.mp hx with e | hx
      · subst e
        exact key_of ok (by rw [← hq.1]; exact hq.2.1)
      · exact ih x hx
  exact all r x hx
theorem dt_of {kvs : List (List Key × V)} (ok : HOk P w H h) (e : H a = some (.dT kvs)) : kvs.length ≤ sizeLine ∧ (a == sysModules) = false ∧
    ∃ xs, KT H kvs xs ∧ h.DictOfH (tupleKind (mixKind P w)) a xs := dt_rd ok (.inl e)
end
def DGet (H : Hp) (a : Addr) (y : V) (r : Option V) : Prop :=
  (∃ kvs k, Rd H a (.dK kvs) ∧ y = kV k ∧ r = valV kvs k) ∨ ∃ kvs k b, Rd H a (.dT kvs) ∧ y = .ref b ∧ H b = some (.tup (k.map kV)) ∧ r = valV kvs k
def DPut (H : Hp) (a : Addr) (y v : V) (H' : Hp) : Prop :=
  (∃ kvs k, H a = some (.dK kvs) ∧ y = kV k ∧ kvs.length < sizeLine ∧ H' = upd H a (.dK (putK kvs k v))) ∨
  ∃ kvs k b, H a = some (.dT kvs) ∧ y = .ref b ∧ H b = some (.tup (k.map kV)) ∧ kvs.length < sizeLine ∧ H' = upd H a (.dT (putK kvs k v))
theorem DGet.k {H : Hp} {a : Addr} {kvs : List (Key × V)} {k : Key} (e : H a = some (.dK kvs)) : DGet H a (kV k) (valV kvs k) := .inl ⟨kvs, k, .inl e, rfl, rfl⟩
theorem DPut.k {H : Hp} {a : Addr} {kvs : List (Key × V)} {k : Key} {v : V} (e : H a = some (.dK kvs)) (hl : kvs.length < sizeLine) : DPut H a (kV k) v (upd H a (.dK (putK kvs k v))) := .inl ⟨kvs, k, e, rfl, hl, rfl⟩
section
variable {X : Cx} {pins : List (Addr × Obj)} {σ : St} {H : Hp} {s : Shared} {a : Addr} {y v : V} {u r : Value} {o : Option V} {A : Around} {E : Value → Shared → Prop}
theorem Inv.big (I : Inv X pins σ H s) : sysModules < s.heap.objs.size := by
  have h : mainGlobals < s.heap.objs.size := (I.mod.glob.keeps I.bk).lt
  exact Nat.lt_trans (by decide) h
theorem d_getItem {Q : Value → Shared → Prop} (hu : A.units + 1 < cLine) (I : Inv X pins σ H s) (g : DGet H a y (some v)) (ry : RelV y u) (h : ∀ w' s', Inv X pins σ H s' → RelV v w' → Q w' s') :
    wpAny (model X.prog X.w) A (getItem (.ref a) u) Q E s := by
  rcases g with ⟨kvs, k, e, ey, l⟩ | ⟨kvs, k, b, e, ey, eb, l⟩
  · subst ey
    obtain ⟨z, hd, vs, rel, dd⟩ := dk_rd I.hok e
    obtain ⟨w', hw, rw'⟩ := RelO.some_of (v := v) (o := valueAt vs k) (by rw [l]; exact rel.val k)
    exact wpAny_getItem_of (kV_is ry) dd.mapOf hw (h w' _ (I.tok _) rw')
  · subst ey
    cases (show u = Value.ref b from ry)
    obtain ⟨z, hd, xs, rel, dd⟩ := dt_rd I.hok e
    obtain ⟨w', hw, rw'⟩ := RelO.some_of (v := v) (o := (atKey xs k).map (·.2)) (by rw [l]; exact rel.val k)
    obtain ⟨p, hp, hp2⟩ := Option.map_eq_some_iff.mp hw
    refine wpAny_getItem_heap (tupleKind_room_in1 hu) (key_of I.hok eb) dd hp ?_
    rw [hp2]
    exact h w' _ (I.tok _) rw'
theorem d_notIn {Q : Value → Shared → Prop} (hu : A.units + 1 < cLine) (I : Inv X pins σ H s) (g : DGet H a y o) (ry : RelV y u) (h : ∀ s', Inv X pins σ H s' → Q (.bool (!o.isSome)) s') :
    wpAny (model X.prog X.w) A (compareOp .NotIn u (.ref a)) Q E s := by
  rcases g with ⟨kvs, k, e, ey, l⟩ | ⟨kvs, k, b, e, ey, eb, l⟩
  · subst ey
    obtain ⟨z, hd, vs, rel, dd⟩ := dk_rd I.hok e
    refine wpAny_notIn_of (kV_is ry) hd dd.mapOf ?_
    rw [← (rel.val k).isSome_eq, ← l]
    exact h _ (I.tok _)
  · subst ey
    cases (show u = Value.ref b from ry)
    obtain ⟨z, hd, xs, rel, dd⟩ := dt_rd I.hok e
    refine wpAny_notIn_heap (tupleKind_room_in1 hu) (key_of I.hok eb) hd dd ?_
    have q := (rel.val k).isSome_eq
    rw [Option.isSome_map] at q
    rw [← q, ← l]
    exact h _ (I.tok _)
theorem d_write {h' : Heap} {t' : Nat} {ob : HO} (I : Inv X pins σ H s) (mu : Mut (H a)) (hs : Heap.SameBut a s.heap h') (he : ∃ q, h'.get? a = some q) (new : ObjOk X.prog X.w (upd H a ob) h' a ob) :
    Inv X pins σ (upd H a ob) { s with heap := h', toks := t' } :=
  I.write (x := a) (e := a) mu (.inl rfl) (fun b q hb z => (hs.2 b hb).trans z) he new
theorem dk_new {P : Program} {w : World} {H' : Hp} {h' : Heap} {kvs : List (Key × V)} {vs : List (Key × Value)} (z : kvs.length ≤ sizeLine) (hd : (a == sysModules) = false) (rel : KV kvs vs) (dd : h'.DictOf (mixKind P w) a vs) :
    ObjOk P w H' h' a (.dK kvs) := ⟨z, hd, vs, rel, dd⟩
theorem d_setItem {H' : Hp} {Q : Unit → Shared → Prop} (hu : A.units + 1 < cLine) (I : Inv X pins σ H s) (g : DPut H a y v H') (ry : RelV y u) (rv : RelV v r) (h : ∀ s', Inv X pins σ H' s' → Q () s') :
    wpAny (model X.prog X.w) A (setItem (.ref a) u r) Q E s := by
  rcases g with ⟨kvs, k, e, ey, l, eH⟩ | ⟨kvs, k, b, e, ey, eb, l, eH⟩
  · subst ey eH
    obtain ⟨z, hd, vs, rel, dd⟩ := dk_of I.hok e
    have hz : vs.length ≤ sizeLine := by rw [← rel.length]; exact z
    have hl : (putK kvs k v).length ≤ sizeLine := by have := length_putK kvs k v; omega
    refine wpAny_setItem_pairs (hsz := hz) (kV_is ry) dd fun h' dd' hs => h _ ?_
    have he : ∃ q, h'.get? a = some q := let ⟨q, _, _, hq, _⟩ := dd'; ⟨q, hq⟩
    exact d_write I (by rw [e]; exact True.intro) hs he (dk_new hl hd (rel.put k rv) dd')
  · subst ey eH
    cases (show u = Value.ref b from ry)
    obtain ⟨z, hd, xs, rel, dd⟩ := dt_of I.hok e
    have hz : xs.length ≤ sizeLine := by rw [← Paired.length rel]; exact z
    have hl : (putK kvs k v).length ≤ sizeLine := by have := length_putK kvs k v; omega
    refine wpAny_setItem_heap (hsz := hz) (tupleKind_room_in1 hu) (key_of I.hok eb) dd fun h' dd' hs => h _ ?_
    obtain ⟨q, es, ep, hq, h2, h3, h4, _, h5⟩ := dd'
    refine d_write I (by rw [e]; exact True.intro) hs ⟨q, hq⟩ ⟨hl, hd, _, (rel.put k eb rv).keeps fun c ys ec => ?_, q, es, ep, hq, h2, h3, h4, h5⟩
    rw [upd_ne (ne_of ec e (fun z => nomatch z))]
    exact ec
end
section
variable {X : Cx} {pins : List (Addr × Obj)} {σ : St} {H : Hp} {s : Shared} {a : Addr} {kvs : List (Key × V)} {k : Key} {u : Value} {A : Around} {E : Value → Shared → Prop}
end
def NoSl (i : Expr) : Prop := ∀ ov iv, subscripted i false ov iv = operate [ov, iv] (getItem ov iv)
theorem subD_of {prog : Program} {w : World} {A : Around} {E : Value → Shared → Prop} {s : Shared} {env : Env} {value slice : Expr} {pos : Pos} {T id : String} {Q : Value → Shared → Prop}
    (hl : typeLookup (.type T) "__getitem__" = pure (some (.builtin id))) (hs : NoSl slice)
    (h : wpAny (model prog w) A (eval value env) (fun o s₁ => wpAny (model prog w) A (eval slice env) (fun i s₂ => s₂.TypeIs o T ∧ wpAny (model prog w) A (getItem o i) Q E s₂) E s₁) E s) :
    wpAny (model prog w) A (eval (.Subscript value slice pos) env) Q E s := by
  refine Subscript_ (wpAny_mono h (fun o s₁ h₁ => wpAny_mono h₁ (fun i s₂ h₂ => ?_) fun _ _ x => x) fun _ _ x => x)
  obtain ⟨hT, h₂⟩ := h₂
  unfold subscriptTail
  refine wpAny_bind ?_
  rw [getitemInPython_of_ne hT.not_modules]
  refine wpAny_bind (wpAny_specialOf hT hl ?_)
  have fin : wpAny (model prog w) A (subscripted slice false o i) (fun r s₃ => wpAny (model prog w) A (letTemporaryGo value o r >>= fun _ => pure r) Q E s₃) E s₂ := by
    rw [hs o i]
    exact wpAny_operating (wpAny_mono h₂ (fun r s₃ h₃ => wpAny_bind (wpAny_letTemporaryGo (wpAny_pure h₃))) fun _ _ x => x)
  first
    | exact wpAny_pure (wpAny_bind fin)
    | exact wpAny_bind (wpAny_pure (wpAny_bind fin))
    | exact wpAny_bind fin
theorem dict_typeIs {X : Cx} {pins : List (Addr × Obj)} {σ : St} {H : Hp} {s : Shared} {a : Addr} {y : V} {o : Option V} (I : Inv X pins σ H s) (g : DGet H a y o) : s.TypeIs (.ref a) "dict" := by
  rcases g with ⟨kvs, k, e, _, _⟩ | ⟨kvs, k, b, e, _, _, _⟩
  · obtain ⟨_, _, vs, _, dd⟩ := dk_rd I.hok e
    exact dd.typeIs
  · obtain ⟨_, _, xs, _, dd⟩ := dt_rd I.hok e
    exact dd.typeIs
def tDGet (td ty : TE) : TE := fun σ H Q => td σ H fun x H1 => ty σ H1 fun y H2 => ∃ a v, x = .ref a ∧ DGet H2 a y (some v) ∧ Q v H2
def tDNotIn (ty td : TE) : TE := fun σ H Q => ty σ H fun y H1 => td σ H1 fun x H2 => ∃ a o, x = .ref a ∧ DGet H2 a y o ∧ Q (.bl (!o.isSome)) H2
def sDPut (td ty tv : TE) : TS := fun D σ H => tv σ H fun v H1 => td σ H1 fun x H2 => ty σ H2 fun y H3 => ∃ a H4, x = .ref a ∧ DPut H3 a y v H4 ∧ D.nx σ H4
section
variable {X : Cx} {o i e value : Expr} {pos pos' tpos : Pos} {td ty tv : TE}
theorem pe_dget (hu : X.A.units + 1 < cLine) (ho : PE X o td) (hi : PE X i ty) (hs : NoSl i) : PE X (.Subscript o i pos) (tDGet td ty) := by
  intro pins s σ H Q I h
  refine subD_of PySem.F.slot_dict_getitem.lookup hs (thn (ho pins s σ H _ I h) fun u s1 ⟨x, H1, I1, rx, q1⟩ => thn (hi pins s1 σ H1 _ I1 q1) fun iv s2 ⟨y, H2, I2, ry, a, v, ex, g, q2⟩ => ?_)
  subst ex
  obtain rfl : u = Value.ref a := rx
  exact ⟨dict_typeIs I2 g, d_getItem hu I2 g ry fun w' s3 I3 rw' => ⟨v, H2, I3, rw', q2⟩⟩
theorem pc_dnotin (hu : X.A.units + 1 < cLine) (hi : PE X i ty) (ho : PE X o td) : PC X .NotIn i o (tDNotIn ty td) := by
  intro pins s σ H Q I h
  refine thn (hi pins s σ H _ I h) fun iv s1 ⟨y, H1, I1, ry, q1⟩ => thn (ho pins s1 σ H1 _ I1 q1) fun u s2 ⟨x, H2, I2, rx, a, ov, ex, g, q2⟩ => ?_
  subst ex
  obtain rfl : u = Value.ref a := rx
  exact d_notIn hu I2 g ry fun s3 I3 => ⟨.bl (!ov.isSome), H2, I3, rfl, q2⟩
theorem ps_dput (hu : X.A.units + 1 < cLine) (ho : PE X o td) (hi : PE X i ty) (hv : PE X value tv) (hs : swapsWith value (some (.Subscript o i pos')) pos.line X.env = pure false) :
    PS X (.Assign [.Subscript o i pos'] value pos) (sDPut td ty tv) := by
  intro pins s σ H D I h
  refine wpAny_Assign_Subscript (thn (hv pins s σ H _ I h) fun r s1 ⟨v, H1, I1, rv, q1⟩ => thn (ho pins s1 σ H1 _ I1 q1) fun u s2 ⟨x, H2, I2, rx, q2⟩ => thn (hi pins s2 σ H2 _ I2 q2) fun iv s3 ⟨y, H3, I3, ry, a, H4, ex, g, q3⟩ => ?_) hs
  subst ex
  obtain rfl : u = Value.ref a := rx
  exact d_setItem hu I3 g ry rv fun s4 I4 => ⟨σ, H4, I4, q3⟩
end
theorem dk_empty {P : Program} {w : World} {H : Hp} (h : Heap) (hb : sysModules < h.objs.size) : ObjOk P w H (h.push { cls := .type "dict", data := .dict #[] }) h.objs.size (.dK []) :=
  ⟨Nat.zero_le _, beq_eq_false_iff_ne.mpr (Ne.symm (Nat.ne_of_lt hb)), [], .nil, Heap.DictOf.new h⟩
section
variable {X : Cx} {pos : Pos}
end
def tPairs : List (TE × TE) → St → Hp → (List (V × V) → Hp → Prop) → Prop
  | [], _, H, Q => Q [] H
  | (tk, tv) :: r, σ, H, Q => tk σ H fun x H1 => tv σ H1 fun y H2 => tPairs r σ H2 fun ps H3 => Q ((x, y) :: ps) H3
abbrev VV : List (V × V) → List (Value × Value) → Prop := Paired fun p q => RelV p.1 q.1 ∧ RelV p.2 q.2
def PPs (X : Cx) (pos : Pos) (keys : List (Option Expr)) (values : List Expr) (trs : List (TE × TE)) : Prop :=
  ∀ (pins : List (Addr × Obj)) (s : Shared) (σ : St) (H : Hp) (Q : List (V × V) → Hp → Prop), Inv X pins σ H s → tPairs trs σ H Q →
    wpAny (model X.prog X.w) X.A (evalPairs (pairTrees keys values X.env pos)) (fun vs s' => ∃ ps H', Inv X pins σ H' s' ∧ VV ps vs ∧ Q ps H') X.xe s
theorem pps_nil {X : Cx} {pos : Pos} : PPs X pos [] [] [] := fun pins s σ H Q I h => pairTrees_nil_walk ⟨[], H, I, .nil, h⟩
theorem pps_cons {X : Cx} {pos : Pos} {k v : Expr} {ks : List (Option Expr)} {vs : List Expr} {tk tv : TE} {trs : List (TE × TE)} (hk : PE X k tk) (hv : PE X v tv) (hr : PPs X pos ks vs trs) :
    PPs X pos (some k :: ks) (v :: vs) ((tk, tv) :: trs) := fun pins s σ H Q I h =>
  pairTrees_cons_walk (thn (hk pins s σ H _ I h) fun u s1 ⟨x, H1, I1, rx, q1⟩ => thn (hv pins s1 σ H1 _ I1 q1) fun w2 s2 ⟨y, H2, I2, ry, q2⟩ =>
    thn (hr pins s2 σ H2 _ I2 q2) fun ws s3 ⟨ps, H3, I3, rel, q3⟩ => ⟨(x, y) :: ps, H3, I3, .cons ⟨rx, ry⟩ rel, q3⟩)
def mergeK (kvs more : List (Key × V)) : List (Key × V) := more.foldl (fun acc kv => putK acc kv.1 kv.2) kvs
theorem KV.merge : ∀ {more : List (Key × V)} {rs : List (Key × Value)} {kvs : List (Key × V)} {vs : List (Key × Value)}, KV more rs → KV kvs vs → KV (mergeK kvs more) (merged vs rs) := by
  intro more rs kvs vs r
  unfold KV at r
  induction r generalizing kvs vs with
  | nil => intro q; exact q
  | @cons p q ps qs h t ih =>
    intro r0
    have e : KV (putK kvs p.1 p.2) (stored vs q.1 q.2) := by
      have := r0.put p.1 h.2
      rw [← h.1]; exact this
    exact ih e
theorem length_mergeK : ∀ (more kvs : List (Key × V)), (mergeK kvs more).length ≤ kvs.length + more.length
  | [], kvs => by show kvs.length ≤ kvs.length + 0; omega
  | p :: r, kvs => by
    have h1 := length_mergeK r (putK kvs p.1 p.2)
    have h2 := length_putK kvs p.1 p.2
    show (mergeK (putK kvs p.1 p.2) r).length ≤ _
    rw [List.length_cons]; omega
theorem carries_of {P : Program} {w : World} : ∀ {kvs : List (Key × V)} {ws : List (Value × Value)}, VV (kvs.map fun kv => (kV kv.1, kv.2)) ws → ∃ rs, Carries (mixKind P w) ws rs ∧ KV kvs rs
  | [], _, r => by rw [List.map_nil] at r; cases r; exact ⟨[], True.intro, .nil⟩
  | p :: kvs, _, r => by
    rw [List.map_cons] at r
    cases r with
    | @cons a b as bs h t =>
      obtain ⟨rs, c, q⟩ := carries_of (P := P) (w := w) t
      obtain ⟨b1, b2⟩ := b
      exact ⟨(p.1, b2) :: rs, ⟨kV_is h.1, rfl, c⟩, .cons ⟨rfl, h.2⟩ q⟩
def tDisp (trs : List (TE × TE)) : TE := fun σ H Q => ∀ p, H p = none → tPairs trs σ (upd H p (.dK [])) fun ps H2 => H2 p = some (.dK []) ∧ ∃ kvs : List (Key × V), ps = kvs.map (fun kv => (kV kv.1, kv.2)) ∧ kvs.length ≤ 15 ∧ Q (.ref p) (upd H2 p (.dK (mergeK [] kvs)))
theorem pe_disp {X : Cx} {pos : Pos} {keys : List (Option Expr)} {values : List Expr} {trs : List (TE × TE)} (h : PPs X pos keys values trs) (hall : keys.all (·.isSome) = true) (hl : keys.length = values.length) (h0 : keys ≠ [])
    (h15 : keys.length ≤ 15) : PE X (.Dict keys values pos) (tDisp trs) := by
  intro pins s σ H Q I q
  have hn := I.hok.fresh (Nat.le_refl s.heap.objs.size)
  have I1 := I.laid (a := s.heap.objs.size) (o := .dK []) (h' := s.heap.push { cls := .type "dict", data := .dict #[] }) (t' := s.toks) (fun _ _ q => Heap.get?_push_of_some _ q) (Nat.le_refl _) (dk_empty s.heap I.big)
  refine wpAny_Dict_walk (knd := mixKind X.prog X.w) hall hl h0 h15 (thn (h pins _ σ _ _ I1 (q _ hn)) fun ws s2 ⟨ps, H2, I2, rel, e, kvs, ep, lk, q2⟩ => ?_)
  subst ep
  obtain ⟨rs, c, rk⟩ := carries_of (P := X.prog) (w := X.w) rel
  obtain ⟨z, hd, vs0, r0, dd⟩ := dk_of I2.hok e
  cases r0
  refine ⟨rs, c, dd, fun h' dd' hs => ⟨.ref s.heap.objs.size, _, ?_, rfl, q2⟩⟩
  have hz : (mergeK [] kvs).length ≤ sizeLine := by
    have h1 := length_mergeK kvs []
    rw [List.length_nil] at h1
    rw [sizeLine_eq]; omega
  have he : ∃ q, h'.get? s.heap.objs.size = some q := let ⟨q, _, _, hq, _⟩ := dd'; ⟨q, hq⟩
  exact d_write I2 (by rw [e]; exact True.intro) hs he (dk_new hz hd (rk.merge .nil) dd')
section
variable {X : Cx} {pins : List (Addr × Obj)} {σ : St} {H : Hp} {s : Shared} {a : Addr} {y d : V} {u r : Value} {o : Option V} {A : Around} {E : Value → Shared → Prop}
end
section
variable {X : Cx} {o e f : Expr} {apos cpos : Pos} {td ty tx : TE}
end
section
variable {X : Cx} {pins : List (Addr × Obj)} {σ : St} {H : Hp} {s : Shared} {a : Addr} {kvs : List (Key × V)} {A : Around} {E : Value → Shared → Prop}
end
section
variable {X : Cx} {pins : List (Addr × Obj)} {σ : St} {H : Hp} {s : Shared} {a : Addr} {y : V} {u : Value} {A : Around} {E : Value → Shared → Prop}
end
end L2
namespace L2
open PySem PySem.Spec PyProof.Rows
section
variable {X : Cx}
end
section
variable {κ : Type} [DecidableEq κ]
end
end L2
namespace L2
open PySem PySem.Spec PyProof.Rows
section
variable {X : Cx}
end
end L2
namespace L2
open PySem PySem.Spec PyProof.Rows
end L2
namespace L2
open PySem PySem.Spec PyProof.Rows
section
variable {X : Cx}
end
end L2
namespace L2
open PySem PySem.Spec PyProof.Rows
section
variable {prog : Program} {w : World} {A : Around} {E : Value → Shared → Prop} {s : Shared}
end
end L2
namespace L2
open PySem PySem.Spec PyProof.Rows
end L2
namespace L2
open PySem PySem.Spec PyProof.Rows
section
variable {X : Cx}
end
end L2
namespace L2
open PySem PySem.Spec PyProof.Rows
section
variable {X : Cx} {tg : Expr}
end
end L2
namespace L2
open PySem PySem.Spec PyProof.Rows
end L2
namespace L2
open PySem PySem.Spec PyProof.Rows
section
variable {prog : Program} {w : World} {A : Around} {E : Value → Shared → Prop} {s : Shared} {R : Result → Shared → Prop} {l d Ia : Addr}
end
end L2
namespace L2
open PySem PySem.Spec PyProof.Rows
section
variable {prog : Program} {w : World} {A : Around} {E : Value → Shared → Prop} {s : Shared} {l : Addr}
end
end L2
namespace L2
open PySem PySem.Spec PyProof.Rows
section
variable {X : Cx}
end
end L2
namespace L2
open PySem PySem.Spec PyProof.Rows
section
variable {X : Cx}
theorem call_allB (hc : X.calm = true) : CallR X (.builtin "all") (fun xs H Q => ∃ (p : Addr) (bs : List Bool), xs = [.ref p] ∧ SqL X.K H p (bs.map V.bl) ∧ Q (.bl (bs.all id)) H) := by
  intro pins s σ H xs us Q I r h
  obtain ⟨p, bs, rfl, hp, q⟩ := h
  obtain ⟨u1, rfl, r1⟩ := r.one
  obtain rfl : u1 = Value.ref p := r1
  obtain ⟨its, rv, pl, hz⟩ := I.list hp
  have hits : its = bs.map Value.bool := by
    have go : ∀ (bs : List Bool) (its : List Value), Vals (bs.map V.bl) its → its = bs.map Value.bool := by
      intro bs
      induction bs with
      | nil => intro its r; cases r; rfl
      | cons b bs ih =>
        intro its r
        cases r with
        | cons r rr =>
          obtain rfl := (show _ = Value.bool b from r)
          rw [ih _ rr]; rfl
    exact go bs its rv
  subst hits
  obtain ⟨ob, hob, _⟩ := id pl.isList
  have hlt : p < s.heap.objs.size := Heap.lt_size hob
  refine call_all_walk (wpAny_pyIter_list pl.isList ⟨s.heap.objs.size, _, _, _, _, _, fun i => bs.getD i true, rfl, Walks.list (show X.A.in1.handled = none from I.ok.hd hc) _ p (Nat.ne_of_lt hlt) _, ⟨⟨_, Heap.get?_push_size _ rfl, rfl, rfl⟩, pl.isList.push _⟩, fun i v s1 Q' E' hv hq => ?_, fun h' tk k => ?_⟩)
  · have hv' : (bs.map Value.bool)[i]? = some v := by simpa using hv
    rw [List.getElem?_map] at hv'
    cases eb : bs[i]? with
    | none => rw [eb] at hv'; cases hv'
    | some b =>
      rw [eb] at hv'
      obtain rfl : Value.bool b = v := Option.some.inj hv'
      have : bs.getD i true = b := by rw [List.getD_eq_getElem?_getD, eb]; rfl
      have hq' : Q' b s1 := by rw [← this]; exact hq
      exact wpAny_pure hq'
  · have keep : ∀ b o, s.heap.get? b = some o → h'.get? b = some o := fun b o e => k b o (by simpa using Nat.ne_of_lt (Heap.lt_size e)) (Heap.get?_push_of_some _ e)
    refine ⟨.bl (bs.all id), H, I.kept (t' := tk) keep, ?_, q⟩
    show Value.bool _ = Value.bool _
    congr 1
    have go : ∀ (bs : List Bool), ((List.range bs.length).all fun i => bs.getD i true) = bs.all id := by
      intro bs
      induction bs with
      | nil => rfl
      | cons b bs ih =>
        rw [List.length_cons, List.range_succ_eq_map, List.all_cons, List.all_map, List.all_cons, ← ih]
        rfl
    rw [← go bs]
    simp
end
end L2
namespace L2
open PySem PySem.Spec PyProof.Rows
structure Cal (P : Program) (w : World) (K : PySem.W.Frag) (mg : Str → Option Value) (base : Heap) (CX : CXT) (k : Nat) (x : Str) (ps : List Str) (sp : Sp) : Prop where
  ex : ∃ f fd, mg x = some (.ref f) ∧ PySem.W.keepIn K (.ref f) = true ∧ Binds K fd ps [] ∧ FnOk P w K mg base CX k f fd ps sp
theorem pe_cal {X : Cx} {CX : CXT} {k : Nat} {x : Str} {ps : List Str} {sp : Sp} {E : XK} {e : Expr} {es : List Expr} {t : TA} {p pos : Pos} (C : Cal X.prog X.w X.K X.mg X.base CX k x ps sp) (hr : Room k X.A) (hx : Passes CX X E) (ha : PA X (e :: es) t) (hg : Gl X x := by rfl)
    (hdb : (x == ("__debug__" : Str)) = false := by decide) (he : starEach (e :: es) X.env = (false, eval e X.env) :: starEach es X.env := by rfl) (hpl : (backTo pos (starEach es X.env)).any (·.1) = false := by rfl) :
    PE X (.Call (.Name x p) (e :: es) [] pos) (tCall sp [] E t) := by
  obtain ⟨f, fd, a, b, c, d⟩ := C.ex
  exact pe_call d hr hg a b c .nil hx ha hdb he hpl
theorem same_new {H : Hp} {D : Addr} {o : HO} (h : H D = none) : Same H (upd H D o) := fun b u e => by rw [upd_ne (ne_of_none e h)]; exact e
def SameE (p : Addr) (H H' : Hp) : Prop := ∀ b o, H b = some o → b ≠ p → H' b = some o
theorem SameE.trans {p : Addr} {H H1 H2 : Hp} (a : SameE p H H1) (b : SameE p H1 H2) : SameE p H H2 := fun c o h n => b c o (a c o h n) n
theorem SameE.upd {p : Addr} {H : Hp} {o : HO} : SameE p H (upd H p o) := fun b u h n => by rw [upd_ne n]; exact h
theorem SameE.of {p : Addr} {H H' : Hp} (s : Same H H') : SameE p H H' := fun b o h _ => s b o h
theorem SameE.free {p q : Addr} {H H' : Hp} (s : SameE p H H') (hp : H' p ≠ none) (h : H' q = none) : H q = none := by
  cases z : H q with
  | none => rfl
  | some o =>
    by_cases e : q = p
    · subst e; exact absurd h hp
    · rw [s q o z e] at h; cases h
theorem ixN_nat {n j : Nat} (h : j < n) : ixN n (j : Int) = some j := by
  unfold ixN
  rw [if_pos (by omega), if_pos (by omega)]
  simp
theorem getD_snoc {as : List Addr} {t : Addr} {j n : Nat} (h : as.length = n) : (as ++ [t]).getD j 0 = if j = n then t else as.getD j 0 := by
  rw [List.getD_eq_getElem?_getD, List.getD_eq_getElem?_getD]
  by_cases hj : j = n
  · subst hj; subst h
    rw [if_pos rfl, List.getElem?_append_right (Nat.le_refl _), Nat.sub_self]; rfl
  · rw [if_neg hj]
    by_cases hlt : j < as.length
    · rw [List.getElem?_append_left hlt]
    · rw [List.getElem?_append_right (by omega), List.getElem?_eq_none (by simp; omega), List.getElem?_eq_none (by omega)]
def Holds (H : Hp) (as : List Addr) (n : Nat) (o : Nat → HO) : Prop := as.length = n ∧ ∀ j, j < n → H (as.getD j 0) = some (o j)
theorem Holds.nil {H : Hp} {o : Nat → HO} : Holds H [] 0 o := ⟨rfl, fun j hj => absurd hj (by omega)⟩
theorem Holds.snoc {H : Hp} {as : List Addr} {n : Nat} {o : Nat → HO} {t : Addr} (h : Holds H as n o) (ht : H t = some (o n)) : Holds H (as ++ [t]) (n + 1) o := by
  refine ⟨by rw [List.length_append, h.1]; rfl, fun j hj => ?_⟩
  rw [getD_snoc h.1]
  by_cases e : j = n
  · rw [if_pos e, e]; exact ht
  · rw [if_neg e]; exact h.2 j (by omega)
theorem Holds.mono {H H' : Hp} {as : List Addr} {n : Nat} {o : Nat → HO} (h : Holds H as n o) (e : ∀ j, j < n → H (as.getD j 0) = some (o j) → H' (as.getD j 0) = some (o j)) : Holds H' as n o := ⟨h.1, fun j hj => e j hj (h.2 j hj)⟩
end L2
namespace PyProof.Rows
open PySem
def gallop' : Bool → Keyed → Array Keyed → Nat → Nat → Nat → StateT SortSt Sem (Option Nat) := sortPriv% PySem.Builtin.gallop
def mergeLo' : Array Keyed → Array Keyed → StateT SortSt Sem (Array Keyed) := sortPriv% PySem.Builtin.mergeLo
def mergeHi' : Array Keyed → Array Keyed → StateT SortSt Sem (Array Keyed) := sortPriv% PySem.Builtin.mergeHi
def setMinGallop' : Nat → StateT SortSt Sem Unit := sortPriv% PySem.Builtin.setMinGallop
def Cmp (prog : Program) (w : World) (A : Around) (s : Shared) (κ : SortKind) (a₀ : Array Keyed) : Prop :=
  ∀ x y, x ∈ a₀.toList → y ∈ a₀.toList → ∀ (Q : Bool → Shared → Prop) (E : Value → Shared → Prop), (∀ b, Q b s) → wpAny (model prog w) A (keyLt' κ x.1 y.1) Q E s
structure SQ (κ : SortKind) (a₀ : Array Keyed) (pd : Array (Nat × Nat × Nat)) (st : SortSt) : Prop where
  perm : (arrOf st).Perm a₀
  kind : kindOf st = κ
  failed : failedOf st = none
  pend : pendingOf st = pd
section
variable {prog : Program} {w : World} {A : Around} {E : Value → Shared → Prop} {s : Shared} {κ : SortKind} {a₀ : Array Keyed} {pd : Array (Nat × Nat × Nat)}
theorem SQ.size {st : SortSt} (h : SQ κ a₀ pd st) : (arrOf st).size = a₀.size := h.perm.size_eq
theorem SQ.setArr {st : SortSt} (h : SQ κ a₀ pd st) {xs : Array Keyed} (hp : xs.Perm (arrOf st)) : SQ κ a₀ pd (setArr st xs) := ⟨hp.trans h.perm, h.kind, h.failed, h.pend⟩
theorem SQ.at {st : SortSt} (h : SQ κ a₀ pd st) {i : Nat} (hi : i < a₀.size) : ∃ p, (arrOf st)[i]? = some p ∧ p ∈ a₀.toList := by
  have hi' : i < (arrOf st).size := by rw [h.size]; exact hi
  exact ⟨(arrOf st)[i], getElem?_pos _ i hi', (Array.perm_iff_toList_perm.mp h.perm).mem_iff.mp (by simp)⟩
theorem wpS_lt {st : SortSt} {x y : Keyed} {Q : Option Bool → SortSt → Prop} (hC : Cmp prog w A s κ a₀) (hk : kindOf st = κ) (hx : x ∈ a₀.toList) (hy : y ∈ a₀.toList) (h : ∀ b, Q (some b) st) : wpS (model prog w) A E s (lt' x y) Q st := by
  rw [lt'_eq]
  refine wpS_bind (wpS_get ?_)
  rw [hk]
  refine wpS_bind (wpS_lift (wpAny_attempt (hC x y hx hy _ _ fun b => ⟨rfl, ?_⟩)))
  exact wpS_pure (h b)
theorem wpS_elem {st : SortSt} {arr : Array Keyed} {i : Nat} {p : Keyed} {Q : Keyed → SortSt → Prop} (hi : arr[i]? = some p) (h : Q p st) : wpS (model prog w) A E s (elem' arr i) Q st := by
  rw [elem'_eq, hi]
  exact wpS_pure h
theorem wpS_ltQ {st : SortSt} {i j : Nat} {Q : Option Bool → SortSt → Prop} (hC : Cmp prog w A s κ a₀) (hB : SQ κ a₀ pd st) (hi : i < a₀.size) (hj : j < a₀.size) (h : ∀ b, Q (some b) st) : wpS (model prog w) A E s (ltAt' i j) Q st := by
  obtain ⟨p, e1, m1⟩ := hB.at hi
  obtain ⟨q, e2, m2⟩ := hB.at hj
  rw [ltAt'_eq]
  refine wpS_bind (wpS_get ?_)
  exact wpS_bind (wpS_elem e1 (wpS_bind (wpS_elem e2 (wpS_lt hC hB.kind m1 m2 h))))
theorem wpS_rev {st : SortSt} {i j : Nat} {Q : Unit → SortSt → Prop} (hB : SQ κ a₀ pd st) (h : ∀ st', SQ κ a₀ pd st' → Q () st') : wpS (model prog w) A E s (reverseSlice' i j) Q st := by
  rw [reverseSlice'_eq]
  exact wpS_modify (h _ (hB.setArr (mirror_perm _ _ _ _)))
theorem wpS_down {st : SortSt} {i j : Nat} {Q : Unit → SortSt → Prop} (hB : SQ κ a₀ pd st) (h : ∀ st', SQ κ a₀ pd st' → Q () st') : wpS (model prog w) A E s (moveDown' i j) Q st := by
  rw [moveDown'_eq]
  exact wpS_modify (h _ (hB.setArr (bubble_perm _ _ _)))
theorem wpS_bin {st : SortSt} {lo n ok : Nat} {Q : Bool → SortSt → Prop} (hC : Cmp prog w A s κ a₀) (hn : lo + n ≤ a₀.size) (hB : SQ κ a₀ pd st) (h : ∀ st', SQ κ a₀ pd st' → Q true st') : wpS (model prog w) A E s (binarySort' lo n ok) Q st := by
  rw [binarySort'_eq]
  refine wpS_bind (wpS_mono (wpS_forRange (I := fun _ c st' => c = (none, ()) ∧ SQ κ a₀ pd st') (Q := fun c st' => c = (none, ()) ∧ SQ κ a₀ pd st') ?_ (fun c st' hh => hh) ⟨rfl, hB⟩) ?_)
  · rintro k c st' hk1 hk2 ⟨rfl, hB'⟩
    dsimp only
    refine wpS_bind (wpS_mono (wpS_forRange (I := fun _ c st'' => (∃ l r, c = (none, l, r) ∧ r ≤ k) ∧ SQ κ a₀ pd st'') (Q := fun c st'' => (∃ l r, c = (none, l, r) ∧ r ≤ k) ∧ SQ κ a₀ pd st'') ?_ (fun c st' hh => hh) ⟨⟨_, _, rfl, Nat.le_refl _⟩, hB'⟩) ?_)
    · rintro x c st2 _ _ ⟨⟨l, r, rfl, hr⟩, hB2⟩
      dsimp only
      by_cases hlr : l ≥ r
      · rw [if_pos hlr]
        exact wpS_pure ⟨⟨_, _, rfl, hr⟩, hB2⟩
      · rw [if_neg hlr]
        refine wpS_bind (wpS_ltQ hC hB2 (by omega) (by omega) fun b => ?_)
        cases b
        · exact wpS_pure ⟨⟨_, _, rfl, hr⟩, hB2⟩
        · exact wpS_pure ⟨⟨_, _, rfl, by omega⟩, hB2⟩
    · rintro c st2 ⟨⟨l, r, rfl, hr⟩, hB2⟩
      dsimp only
      exact wpS_bind (wpS_down hB2 fun st3 hB3 => wpS_pure ⟨rfl, hB3⟩)
  · rintro c st' ⟨rfl, hB'⟩
    exact wpS_pure (h st' hB')
end
end PyProof.Rows
namespace PyProof.Rows
open PySem
theorem gallop'_eq (left : Bool) (key : Keyed) (arr : Array Keyed) (base n hint : Nat) : gallop' left key arr base n hint = (do
  let beyond (i : Nat) : StateT SortSt Sem (Option Bool) := do
    let x ← elem' arr (base + i)
    if left then lt' x key else return (← lt' key x).map (!·)
  let mut lastofs := 0
  let mut ofs := 1
  let mut lo := 0
  let mut hi := 0
  let some right ← beyond hint | return none
  if right then
    let maxofs := n - hint
    for _ in [0:n] do
      if ofs ≥ maxofs then break
      let some more ← beyond (hint + ofs) | return none
      if !more then break
      lastofs := ofs
      ofs := 2 * ofs + 1
    lo := hint + lastofs + 1
    hi := hint + min ofs maxofs
  else
    let maxofs := hint + 1
    for _ in [0:n] do
      if ofs ≥ maxofs then break
      let some found ← beyond (hint - ofs) | return none
      if found then break
      lastofs := ofs
      ofs := 2 * ofs + 1
    lo := hint + 1 - min ofs maxofs
    hi := hint - lastofs
  for _ in [0:n] do
    if lo ≥ hi then break
    let m := lo + (hi - lo) / 2
    let some more ← beyond m | return none
    if more then lo := m + 1 else hi := m
  return some hi) := rfl
section
variable {prog : Program} {w : World} {A : Around} {E : Value → Shared → Prop} {s : Shared} {κ : SortKind} {a₀ : Array Keyed} {pd : Array (Nat × Nat × Nat)}
theorem wpS_beyond {st : SortSt} {left : Bool} {key : Keyed} {arr : Array Keyed} {j : Nat} {Q : Option Bool → SortSt → Prop} (hC : Cmp prog w A s κ a₀) (hk : kindOf st = κ) (hkey : key ∈ a₀.toList) (hin : ∀ x ∈ arr.toList, x ∈ a₀.toList) (hj : j < arr.size) (h : ∀ b, Q (some b) st) :
    wpS (model prog w) A E s (do
    let x ← elem' arr j
    if left then lt' x key else return (← lt' key x).map (!·)) Q st := by
  have hm : arr[j] ∈ a₀.toList := hin _ (by simp)
  refine wpS_bind (wpS_elem (getElem?_pos arr j hj) ?_)
  cases left
  · rw [if_neg (by decide)]
    exact wpS_bind (wpS_lt hC hk hkey hm fun b => wpS_pure (h (!b)))
  · rw [if_pos rfl]
    exact wpS_lt hC hk hm hkey h
theorem wpS_gallop {st : SortSt} {left : Bool} {key : Keyed} {arr : Array Keyed} {base n hint : Nat} {Q : Option Nat → SortSt → Prop} (hC : Cmp prog w A s κ a₀) (hk : kindOf st = κ) (hkey : key ∈ a₀.toList) (hin : ∀ x ∈ arr.toList, x ∈ a₀.toList) (hn : base + n ≤ arr.size) (hh : hint < n)
    (h : ∀ k, k ≤ n → Q (some k) st) : wpS (model prog w) A E s (gallop' left key arr base n hint) Q st := by
  rw [gallop'_eq]
  refine wpS_bind (wpS_beyond hC hk hkey hin (by omega) fun right => ?_)
  cases right
  · dsimp only
    rw [if_neg (by decide)]
    refine wpS_bind (wpS_mono (wpS_forRange (I := fun _ c st' => (∃ l o, c = (none, l, o)) ∧ st = st') (Q := fun c st' => (∃ l o, c = (none, l, o)) ∧ st = st') ?_ (fun c st' hh => hh) ⟨⟨_, _, rfl⟩, rfl⟩) ?_)
    · rintro x c st' _ _ ⟨⟨l, o, rfl⟩, rfl⟩
      dsimp only
      by_cases hlr : o ≥ hint + 1
      · rw [if_pos hlr]; exact wpS_pure ⟨⟨_, _, rfl⟩, rfl⟩
      · rw [if_neg hlr]
        refine wpS_bind (wpS_beyond hC hk hkey hin (by omega) fun found => ?_)
        cases found
        · exact wpS_pure ⟨⟨_, _, rfl⟩, rfl⟩
        · exact wpS_pure ⟨⟨_, _, rfl⟩, rfl⟩
    · rintro c st' ⟨⟨l, o, rfl⟩, rfl⟩
      dsimp only
      refine wpS_bind (wpS_mono (wpS_forRange (I := fun _ c st' => (∃ l u, c = (none, l, u) ∧ u ≤ n) ∧ st = st') (Q := fun c st' => (∃ l u, c = (none, l, u) ∧ u ≤ n) ∧ st = st') ?_ (fun c st' hh => hh) ⟨⟨_, _, rfl, by omega⟩, rfl⟩) ?_)
      · rintro x c st' _ _ ⟨⟨l, u, rfl, hu⟩, rfl⟩
        dsimp only
        by_cases hlr : l ≥ u
        · rw [if_pos hlr]; exact wpS_pure ⟨⟨_, _, rfl, hu⟩, rfl⟩
        · rw [if_neg hlr]
          refine wpS_bind (wpS_beyond hC hk hkey hin (by omega) fun more => ?_)
          cases more
          · exact wpS_pure ⟨⟨_, _, rfl, by omega⟩, rfl⟩
          · exact wpS_pure ⟨⟨_, _, rfl, hu⟩, rfl⟩
      · rintro c st' ⟨⟨l, u, rfl, hu⟩, rfl⟩
        exact wpS_pure (h u hu)
  · dsimp only
    rw [if_pos rfl]
    refine wpS_bind (wpS_mono (wpS_forRange (I := fun _ c st' => (∃ l o, c = (none, l, o)) ∧ st = st') (Q := fun c st' => (∃ l o, c = (none, l, o)) ∧ st = st') ?_ (fun c st' hh => hh) ⟨⟨_, _, rfl⟩, rfl⟩) ?_)
    · rintro x c st' _ _ ⟨⟨l, o, rfl⟩, rfl⟩
      dsimp only
      by_cases hlr : o ≥ n - hint
      · rw [if_pos hlr]; exact wpS_pure ⟨⟨_, _, rfl⟩, rfl⟩
      · rw [if_neg hlr]
        refine wpS_bind (wpS_beyond hC hk hkey hin (by omega) fun more => ?_)
        cases more
        · exact wpS_pure ⟨⟨_, _, rfl⟩, rfl⟩
        · exact wpS_pure ⟨⟨_, _, rfl⟩, rfl⟩
    · rintro c st' ⟨⟨l, o, rfl⟩, rfl⟩
      dsimp only
      refine wpS_bind (wpS_mono (wpS_forRange (I := fun _ c st' => (∃ l u, c = (none, l, u) ∧ u ≤ n) ∧ st = st') (Q := fun c st' => (∃ l u, c = (none, l, u) ∧ u ≤ n) ∧ st = st') ?_ (fun c st' hh => hh) ⟨⟨_, _, rfl, by omega⟩, rfl⟩) ?_)
      · rintro x c st' _ _ ⟨⟨l, u, rfl, hu⟩, rfl⟩
        dsimp only
        by_cases hlr : l ≥ u
        · rw [if_pos hlr]; exact wpS_pure ⟨⟨_, _, rfl, hu⟩, rfl⟩
        · rw [if_neg hlr]
          refine wpS_bind (wpS_beyond hC hk hkey hin (by omega) fun more => ?_)
          cases more
          · exact wpS_pure ⟨⟨_, _, rfl, by omega⟩, rfl⟩
          · exact wpS_pure ⟨⟨_, _, rfl, hu⟩, rfl⟩
      · rintro c st' ⟨⟨l, u, rfl, hu⟩, rfl⟩
        exact wpS_pure (h u hu)
end
end PyProof.Rows
namespace PyProof.Rows
open PySem
theorem setMinGallop'_eq (g : Nat) : setMinGallop' g = modify fun s => SortSt.mk' (kindOf s) (arrOf s) (pendingOf s) g (failedOf s) := rfl
theorem mergeLo'_eq (a b : Array Keyed) : mergeLo' a b = (do
  rule "list.sort.merge-lo"
  let total := a.size + b.size
  let done (out : Array Keyed) (ia ib : Nat) := out ++ a.extract ia a.size ++ b.extract ib b.size
  let lastOfA (out : Array Keyed) (ia ib : Nat) := out ++ b.extract ib b.size ++ a.extract ia a.size
  let mut out : Array Keyed := #[← elem' b 0]
  let mut ia := 0
  let mut ib := 1
  if ib == b.size then return done out ia ib
  if ia + 1 == a.size then return lastOfA out ia ib
  let mut minGallop := gallopOf (← get)
  for _ in [0:total] do
    let mut acount := 0
    let mut bcount := 0
    for _ in [0:total] do
      let some bWins ← lt' (← elem' b ib) (← elem' a ia) | return done out ia ib
      if bWins then
        out := out.push (← elem' b ib); ib := ib + 1; bcount := bcount + 1; acount := 0
        if ib == b.size then return done out ia ib
        if bcount ≥ minGallop then break
      else
        out := out.push (← elem' a ia); ia := ia + 1; acount := acount + 1; bcount := 0
        if ia + 1 == a.size then return lastOfA out ia ib
        if acount ≥ minGallop then break
    rule "list.sort.gallop"
    minGallop := minGallop + 1
    for _ in [0:total] do
      if minGallop > 1 then minGallop := minGallop - 1
      setMinGallop' minGallop
      let some k ← gallop' false (← elem' b ib) a ia (a.size - ia) 0 | return done out ia ib
      acount := k
      if k > 0 then
        out := out ++ a.extract ia (ia + k); ia := ia + k
        if ia + 1 == a.size then return lastOfA out ia ib
        if ia == a.size then return done out ia ib
      out := out.push (← elem' b ib); ib := ib + 1
      if ib == b.size then return done out ia ib
      let some k ← gallop' true (← elem' a ia) b ib (b.size - ib) 0 | return done out ia ib
      bcount := k
      if k > 0 then
        out := out ++ b.extract ib (ib + k); ib := ib + k
        if ib == b.size then return done out ia ib
      out := out.push (← elem' a ia); ia := ia + 1
      if ia + 1 == a.size then return lastOfA out ia ib
      if acount < 7 && bcount < 7 then break
    minGallop := minGallop + 1
    setMinGallop' minGallop
  unsupported "internal:list.sort.merge-bound") := rfl
structure SM (κ : SortKind) (ar : Array Keyed) (pd : Array (Nat × Nat × Nat)) (st : SortSt) : Prop where
  arr : arrOf st = ar
  kind : kindOf st = κ
  failed : failedOf st = none
  pend : pendingOf st = pd
def PI (a b out : Array Keyed) (ia ib : Nat) : Prop := out.toList.Perm (a.toList.take ia ++ b.toList.take ib)
theorem take_one {l : List Keyed} {i : Nat} (h : i < l.length) : l.take (i + 1) = l.take i ++ [l[i]] := by rw [List.take_add_one, List.getElem?_eq_getElem h]; rfl
theorem PI.pushA {a b out : Array Keyed} {ia ib : Nat} (h : PI a b out ia ib) (hi : ia < a.size) : PI a b (out.push a[ia]) (ia + 1) ib := by
  unfold PI at h ⊢
  rw [Array.toList_push, take_one (by simpa using hi), List.append_assoc]
  refine (h.append_right _).trans ?_
  rw [List.append_assoc]
  refine List.Perm.append_left _ ?_
  have : a.toList[ia]'(by simpa using hi) = a[ia] := by simp
  rw [this]
  exact List.perm_append_comm
theorem PI.pushB {a b out : Array Keyed} {ia ib : Nat} (h : PI a b out ia ib) (hi : ib < b.size) : PI a b (out.push b[ib]) ia (ib + 1) := by
  unfold PI at h ⊢
  rw [Array.toList_push, take_one (by simpa using hi), ← List.append_assoc]
  have : b.toList[ib]'(by simpa using hi) = b[ib] := by simp
  rw [this]
  exact h.append_right _
theorem ext_list {a : Array Keyed} {i j : Nat} : (a.extract i j).toList = (a.toList.drop i).take (j - i) := by
  rw [Array.toList_extract, List.extract_eq_take_drop]
theorem PI.appA {a b out : Array Keyed} {ia ib : Nat} (h : PI a b out ia ib) (k : Nat) : PI a b (out ++ a.extract ia (ia + k)) (ia + k) ib := by
  unfold PI at h ⊢
  rw [Array.toList_append, ext_list, Nat.add_sub_cancel_left, List.take_add, List.append_assoc]
  refine (h.append_right _).trans ?_
  rw [List.append_assoc]
  exact List.Perm.append_left _ List.perm_append_comm
theorem PI.appB {a b out : Array Keyed} {ia ib : Nat} (h : PI a b out ia ib) (k : Nat) : PI a b (out ++ b.extract ib (ib + k)) ia (ib + k) := by
  unfold PI at h ⊢
  rw [Array.toList_append, ext_list, Nat.add_sub_cancel_left, List.take_add, ← List.append_assoc]
  exact h.append_right _
theorem PI.done {a b out : Array Keyed} {ia ib : Nat} (h : PI a b out ia ib) : (out ++ a.extract ia a.size ++ b.extract ib b.size).Perm (a ++ b) := by
  rw [Array.perm_iff_toList_perm]
  unfold PI at h
  rw [Array.toList_append, Array.toList_append, Array.toList_append, ext_list, ext_list]
  have e1 : (a.toList.drop ia).take (a.size - ia) = a.toList.drop ia := List.take_of_length_le (by simp)
  have e2 : (b.toList.drop ib).take (b.size - ib) = b.toList.drop ib := List.take_of_length_le (by simp)
  rw [e1, e2]
  refine ((h.append_right _).append_right _).trans ?_
  conv => rhs; rw [← List.take_append_drop ia a.toList, ← List.take_append_drop ib b.toList]
  rw [List.append_assoc, List.append_assoc, List.append_assoc]
  refine List.Perm.append_left _ ?_
  rw [← List.append_assoc, ← List.append_assoc]
  exact List.Perm.append_right _ List.perm_append_comm
theorem PI.last {a b out : Array Keyed} {ia ib : Nat} (h : PI a b out ia ib) : (out ++ b.extract ib b.size ++ a.extract ia a.size).Perm (a ++ b) := by
  refine Array.Perm.trans ?_ h.done
  rw [Array.perm_iff_toList_perm]
  rw [Array.toList_append, Array.toList_append, Array.toList_append, Array.toList_append, List.append_assoc, List.append_assoc]
  exact List.Perm.append_left _ List.perm_append_comm
section
variable {prog : Program} {w : World} {A : Around} {E : Value → Shared → Prop} {s : Shared} {κ : SortKind} {a₀ : Array Keyed} {pd : Array (Nat × Nat × Nat)} {ar : Array Keyed}
theorem wpS_mergeLo {st : SortSt} {a b : Array Keyed} {Q : Array Keyed → SortSt → Prop} (hC : Cmp prog w A s κ a₀) (hB : SM κ ar pd st) (ha : ∀ x ∈ a.toList, x ∈ a₀.toList) (hb : ∀ x ∈ b.toList, x ∈ a₀.toList) (a1 : 1 ≤ a.size) (b1 : 1 ≤ b.size)
    (h : ∀ out st', out.Perm (a ++ b) → SM κ ar pd st' → Q out st') : wpS (model prog w) A E s (mergeLo' a b) Q st := by
  rw [mergeLo'_eq]
  refine wpS_bind (wpS_lift (wpAny_rule ⟨rfl, ?_⟩))
  refine wpS_bind (wpS_elem (getElem?_pos b 0 (by omega)) ?_)
  dsimp only
  have p0 : PI a b #[b[0]] 0 1 := by
    have : PI a b #[] 0 0 := by unfold PI; simp
    exact this.pushB (by omega)
  by_cases e1 : (1 == b.size) = true
  · rw [if_pos e1]
    exact wpS_pure (h _ _ p0.done hB)
  rw [if_neg e1]
  have n1 : ¬ (1 = b.size) := by simpa using e1
  by_cases e2 : (0 + 1 == a.size) = true
  · rw [if_pos e2]
    exact wpS_pure (h _ _ p0.last hB)
  rw [if_neg e2]
  have n2 : ¬ (0 + 1 = a.size) := by simpa using e2
  refine wpS_bind (wpS_get ?_)
  refine wpS_bind (wpS_mono (wpS_forRange (I := fun i c st' => SM κ ar pd st' ∧ ∃ out ia ib mg, c = (none, out, ia, ib, mg) ∧ PI a b out ia ib ∧ ia + 1 < a.size ∧ ib < b.size ∧ i ≤ ia + ib) (Q := fun c st' => SM κ ar pd st' ∧ ∃ r c', c = (some r, c') ∧ r.Perm (a ++ b)) ?_ ?_ ⟨hB, _, _, _, _, rfl, p0, by omega, by omega, by omega⟩) ?_)
  · rintro i c st1 _ hi ⟨hB0, out, ia, ib, mg, rfl, p1, la, lb, li⟩
    dsimp only
    refine wpS_bind (wpS_mono (wpS_forRange (I := fun x c st' => SM κ ar pd st' ∧ ∃ out ia ib ac bc, c = (none, out, ia, ib, ac, bc) ∧ PI a b out ia ib ∧ ia + 1 < a.size ∧ ib < b.size ∧ i + x ≤ ia + ib) (Q := fun c st' => SM κ ar pd st' ∧ ((∃ r c', c = (some r, c') ∧ r.Perm (a ++ b)) ∨ ∃ out ia ib ac bc, c = (none, out, ia, ib, ac, bc) ∧ PI a b out ia ib ∧ ia + 1 < a.size ∧ ib < b.size ∧ i + 1 ≤ ia + ib)) ?_ ?_ ⟨hB0, _, _, _, _, _, rfl, p1, la, lb, by omega⟩) ?_)
    · rintro x c st2 _ hx ⟨hB1, out, ia, ib, ac, bc, rfl, p1, la, lb, li⟩
      dsimp only
      refine wpS_bind (wpS_elem (getElem?_pos b ib (by omega)) ?_)
      refine wpS_bind (wpS_elem (getElem?_pos a ia (by omega)) ?_)
      refine wpS_bind (wpS_lt hC hB1.kind (hb _ (by simp)) (ha _ (by simp)) fun bw => ?_)
      cases bw
      · dsimp only
        rw [if_neg (by decide)]
        refine wpS_bind (wpS_elem (getElem?_pos a ia (by omega)) ?_)
        have p2 := p1.pushA (show ia < a.size by omega)
        by_cases f1 : (ia + 1 + 1 == a.size) = true
        · rw [if_pos f1]; exact wpS_pure ⟨hB1, .inl ⟨_, _, rfl, p2.last⟩⟩
        rw [if_neg f1]
        have g1 : ¬ (ia + 1 + 1 = a.size) := by simpa using f1
        split
        · exact wpS_pure ⟨hB1, .inr ⟨_, _, _, _, _, rfl, p2, by omega, by omega, by omega⟩⟩
        · exact wpS_pure ⟨hB1, _, _, _, _, _, rfl, p2, by omega, by omega, by omega⟩
      · dsimp only
        rw [if_pos rfl]
        refine wpS_bind (wpS_elem (getElem?_pos b ib (by omega)) ?_)
        have p2 := p1.pushB (show ib < b.size by omega)
        by_cases f1 : (ib + 1 == b.size) = true
        · rw [if_pos f1]; exact wpS_pure ⟨hB1, .inl ⟨_, _, rfl, p2.done⟩⟩
        rw [if_neg f1]
        have g1 : ¬ (ib + 1 = b.size) := by simpa using f1
        split
        · exact wpS_pure ⟨hB1, .inr ⟨_, _, _, _, _, rfl, p2, by omega, by omega, by omega⟩⟩
        · exact wpS_pure ⟨hB1, _, _, _, _, _, rfl, p2, by omega, by omega, by omega⟩
    · rintro c st2 ⟨hB1, out, ia, ib, ac, bc, rfl, p1, la, lb, li⟩
      exact ⟨hB1, .inr ⟨_, _, _, _, _, rfl, p1, la, lb, by omega⟩⟩
    · rintro c st2 ⟨hB1, ⟨r, c', rfl, hp⟩ | ⟨out, ia, ib, ac, bc, rfl, p1, la, lb, li⟩⟩
      · exact wpS_pure ⟨hB1, _, _, rfl, hp⟩
      · dsimp only
        refine wpS_bind (wpS_lift (wpAny_rule ⟨rfl, ?_⟩))
        refine wpS_bind (wpS_mono (wpS_forRange (I := fun x c st' => SM κ ar pd st' ∧ ∃ out ia ib mg ac bc, c = (none, out, ia, ib, mg, ac, bc) ∧ PI a b out ia ib ∧ ia + 1 < a.size ∧ ib < b.size ∧ i + 1 ≤ ia + ib) (Q := fun c st' => SM κ ar pd st' ∧ ((∃ r c', c = (some r, c') ∧ r.Perm (a ++ b)) ∨ ∃ out ia ib mg ac bc, c = (none, out, ia, ib, mg, ac, bc) ∧ PI a b out ia ib ∧ ia + 1 < a.size ∧ ib < b.size ∧ i + 1 ≤ ia + ib)) ?_ ?_ ⟨hB1, _, _, _, _, _, _, rfl, p1, la, lb, li⟩) ?_)
        · rintro x c st2 _ hx ⟨hB1, out, ia, ib, mg, ac, bc, rfl, p1, la, lb, li⟩
          dsimp only
          by_cases hmg : mg > 1
          · rw [if_pos hmg]
            rw [setMinGallop'_eq]
            refine wpS_bind (wpS_modify ?_)
            refine wpS_bind (wpS_elem (getElem?_pos b ib (by omega)) ?_)
            have hB2 : SM κ ar pd (SortSt.mk' (kindOf st2) (arrOf st2) (pendingOf st2) (mg - 1) (failedOf st2)) := ⟨hB1.arr, hB1.kind, hB1.failed, hB1.pend⟩
            refine wpS_bind (wpS_gallop hC hB2.kind (hb _ (by simp)) ha (by omega) (by omega) fun k hk => ?_)
            dsimp only
            by_cases kp : k > 0
            · rw [if_pos kp]
              have p2 := p1.appA k
              by_cases f4 : (ia + k + 1 == a.size) = true
              · rw [if_pos f4]; exact wpS_pure ⟨hB2, .inl ⟨_, _, rfl, p2.last⟩⟩
              rw [if_neg f4]
              have g4 : ¬ (ia + k + 1 = a.size) := by simpa using f4
              by_cases f5 : (ia + k == a.size) = true
              · rw [if_pos f5]; exact wpS_pure ⟨hB2, .inl ⟨_, _, rfl, p2.done⟩⟩
              rw [if_neg f5]
              have g5 : ¬ (ia + k = a.size) := by simpa using f5
              refine wpS_bind (wpS_elem (getElem?_pos b (ib) (by omega)) ?_)
              have pb := p2.pushB (show ib < b.size by omega)
              by_cases f1 : ((ib) + 1 == b.size) = true
              · rw [if_pos f1]; exact wpS_pure ⟨hB2, .inl ⟨_, _, rfl, pb.done⟩⟩
              rw [if_neg f1]
              have g1 : ¬ ((ib) + 1 = b.size) := by simpa using f1
              refine wpS_bind (wpS_elem (getElem?_pos a (ia + k) (by omega)) ?_)
              refine wpS_bind (wpS_gallop hC hB2.kind (ha _ (by simp)) hb (by omega) (by omega) fun k2 hk2 => ?_)
              dsimp only
              by_cases k2p : k2 > 0
              · rw [if_pos k2p]
                have pb2 := pb.appB k2
                by_cases f2 : ((ib) + 1 + k2 == b.size) = true
                · rw [if_pos f2]; exact wpS_pure ⟨hB2, .inl ⟨_, _, rfl, pb2.done⟩⟩
                rw [if_neg f2]
                have g2 : ¬ ((ib) + 1 + k2 = b.size) := by simpa using f2
                refine wpS_bind (wpS_elem (getElem?_pos a (ia + k) (by omega)) ?_)
                have pc := pb2.pushA (show ia + k < a.size by omega)
                by_cases f3 : ((ia + k) + 1 + 1 == a.size) = true
                · rw [if_pos f3]; exact wpS_pure ⟨hB2, .inl ⟨_, _, rfl, pc.last⟩⟩
                rw [if_neg f3]
                have g3 : ¬ ((ia + k) + 1 + 1 = a.size) := by simpa using f3
                split
                · exact wpS_pure ⟨hB2, .inr ⟨_, _, _, _, _, _, rfl, pc, by omega, by omega, by omega⟩⟩
                · exact wpS_pure ⟨hB2, ⟨_, _, _, _, _, _, rfl, pc, by omega, by omega, by omega⟩⟩
              · rw [if_neg k2p]
                refine wpS_bind (wpS_elem (getElem?_pos a (ia + k) (by omega)) ?_)
                have pc := pb.pushA (show ia + k < a.size by omega)
                by_cases f3 : ((ia + k) + 1 + 1 == a.size) = true
                · rw [if_pos f3]; exact wpS_pure ⟨hB2, .inl ⟨_, _, rfl, pc.last⟩⟩
                rw [if_neg f3]
                have g3 : ¬ ((ia + k) + 1 + 1 = a.size) := by simpa using f3
                split
                · exact wpS_pure ⟨hB2, .inr ⟨_, _, _, _, _, _, rfl, pc, by omega, by omega, by omega⟩⟩
                · exact wpS_pure ⟨hB2, ⟨_, _, _, _, _, _, rfl, pc, by omega, by omega, by omega⟩⟩
            · rw [if_neg kp]
              refine wpS_bind (wpS_elem (getElem?_pos b (ib) (by omega)) ?_)
              have pb := p1.pushB (show ib < b.size by omega)
              by_cases f1 : ((ib) + 1 == b.size) = true
              · rw [if_pos f1]; exact wpS_pure ⟨hB2, .inl ⟨_, _, rfl, pb.done⟩⟩
              rw [if_neg f1]
              have g1 : ¬ ((ib) + 1 = b.size) := by simpa using f1
              refine wpS_bind (wpS_elem (getElem?_pos a (ia) (by omega)) ?_)
              refine wpS_bind (wpS_gallop hC hB2.kind (ha _ (by simp)) hb (by omega) (by omega) fun k2 hk2 => ?_)
              dsimp only
              by_cases k2p : k2 > 0
              · rw [if_pos k2p]
                have pb2 := pb.appB k2
                by_cases f2 : ((ib) + 1 + k2 == b.size) = true
                · rw [if_pos f2]; exact wpS_pure ⟨hB2, .inl ⟨_, _, rfl, pb2.done⟩⟩
                rw [if_neg f2]
                have g2 : ¬ ((ib) + 1 + k2 = b.size) := by simpa using f2
                refine wpS_bind (wpS_elem (getElem?_pos a (ia) (by omega)) ?_)
                have pc := pb2.pushA (show ia < a.size by omega)
                by_cases f3 : ((ia) + 1 + 1 == a.size) = true
                · rw [if_pos f3]; exact wpS_pure ⟨hB2, .inl ⟨_, _, rfl, pc.last⟩⟩
                rw [if_neg f3]
                have g3 : ¬ ((ia) + 1 + 1 = a.size) := by simpa using f3
                split
                · exact wpS_pure ⟨hB2, .inr ⟨_, _, _, _, _, _, rfl, pc, by omega, by omega, by omega⟩⟩
                · exact wpS_pure ⟨hB2, ⟨_, _, _, _, _, _, rfl, pc, by omega, by omega, by omega⟩⟩
              · rw [if_neg k2p]
                refine wpS_bind (wpS_elem (getElem?_pos a (ia) (by omega)) ?_)
                have pc := pb.pushA (show ia < a.size by omega)
                by_cases f3 : ((ia) + 1 + 1 == a.size) = true
                · rw [if_pos f3]; exact wpS_pure ⟨hB2, .inl ⟨_, _, rfl, pc.last⟩⟩
                rw [if_neg f3]
                have g3 : ¬ ((ia) + 1 + 1 = a.size) := by simpa using f3
                split
                · exact wpS_pure ⟨hB2, .inr ⟨_, _, _, _, _, _, rfl, pc, by omega, by omega, by omega⟩⟩
                · exact wpS_pure ⟨hB2, ⟨_, _, _, _, _, _, rfl, pc, by omega, by omega, by omega⟩⟩
          · rw [if_neg hmg]
            rw [setMinGallop'_eq]
            refine wpS_bind (wpS_modify ?_)
            refine wpS_bind (wpS_elem (getElem?_pos b ib (by omega)) ?_)
            have hB2 : SM κ ar pd (SortSt.mk' (kindOf st2) (arrOf st2) (pendingOf st2) mg (failedOf st2)) := ⟨hB1.arr, hB1.kind, hB1.failed, hB1.pend⟩
            refine wpS_bind (wpS_gallop hC hB2.kind (hb _ (by simp)) ha (by omega) (by omega) fun k hk => ?_)
            dsimp only
            by_cases kp : k > 0
            · rw [if_pos kp]
              have p2 := p1.appA k
              by_cases f4 : (ia + k + 1 == a.size) = true
              · rw [if_pos f4]; exact wpS_pure ⟨hB2, .inl ⟨_, _, rfl, p2.last⟩⟩
              rw [if_neg f4]
              have g4 : ¬ (ia + k + 1 = a.size) := by simpa using f4
              by_cases f5 : (ia + k == a.size) = true
              · rw [if_pos f5]; exact wpS_pure ⟨hB2, .inl ⟨_, _, rfl, p2.done⟩⟩
              rw [if_neg f5]
              have g5 : ¬ (ia + k = a.size) := by simpa using f5
              refine wpS_bind (wpS_elem (getElem?_pos b (ib) (by omega)) ?_)
              have pb := p2.pushB (show ib < b.size by omega)
              by_cases f1 : ((ib) + 1 == b.size) = true
              · rw [if_pos f1]; exact wpS_pure ⟨hB2, .inl ⟨_, _, rfl, pb.done⟩⟩
              rw [if_neg f1]
              have g1 : ¬ ((ib) + 1 = b.size) := by simpa using f1
              refine wpS_bind (wpS_elem (getElem?_pos a (ia + k) (by omega)) ?_)
              refine wpS_bind (wpS_gallop hC hB2.kind (ha _ (by simp)) hb (by omega) (by omega) fun k2 hk2 => ?_)
              dsimp only
              by_cases k2p : k2 > 0
              · rw [if_pos k2p]
                have pb2 := pb.appB k2
                by_cases f2 : ((ib) + 1 + k2 == b.size) = true
                · rw [if_pos f2]; exact wpS_pure ⟨hB2, .inl ⟨_, _, rfl, pb2.done⟩⟩
                rw [if_neg f2]
                have g2 : ¬ ((ib) + 1 + k2 = b.size) := by simpa using f2
                refine wpS_bind (wpS_elem (getElem?_pos a (ia + k) (by omega)) ?_)
                have pc := pb2.pushA (show ia + k < a.size by omega)
                by_cases f3 : ((ia + k) + 1 + 1 == a.size) = true
                · rw [if_pos f3]; exact wpS_pure ⟨hB2, .inl ⟨_, _, rfl, pc.last⟩⟩
                rw [if_neg f3]
                have g3 : ¬ ((ia + k) + 1 + 1 = a.size) := by simpa using f3
                split
                · exact wpS_pure ⟨hB2, .inr ⟨_, _, _, _, _, _, rfl, pc, by omega, by omega, by omega⟩⟩
                · exact wpS_pure ⟨hB2, ⟨_, _, _, _, _, _, rfl, pc, by omega, by omega, by omega⟩⟩
              · rw [if_neg k2p]
                refine wpS_bind (wpS_elem (getElem?_pos a (ia + k) (by omega)) ?_)
                have pc := pb.pushA (show ia + k < a.size by omega)
                by_cases f3 : ((ia + k) + 1 + 1 == a.size) = true
                · rw [if_pos f3]; exact wpS_pure ⟨hB2, .inl ⟨_, _, rfl, pc.last⟩⟩
                rw [if_neg f3]
                have g3 : ¬ ((ia + k) + 1 + 1 = a.size) := by simpa using f3
                split
                · exact wpS_pure ⟨hB2, .inr ⟨_, _, _, _, _, _, rfl, pc, by omega, by omega, by omega⟩⟩
                · exact wpS_pure ⟨hB2, ⟨_, _, _, _, _, _, rfl, pc, by omega, by omega, by omega⟩⟩
            · rw [if_neg kp]
              refine wpS_bind (wpS_elem (getElem?_pos b (ib) (by omega)) ?_)
              have pb := p1.pushB (show ib < b.size by omega)
              by_cases f1 : ((ib) + 1 == b.size) = true
              · rw [if_pos f1]; exact wpS_pure ⟨hB2, .inl ⟨_, _, rfl, pb.done⟩⟩
              rw [if_neg f1]
              have g1 : ¬ ((ib) + 1 = b.size) := by simpa using f1
              refine wpS_bind (wpS_elem (getElem?_pos a (ia) (by omega)) ?_)
              refine wpS_bind (wpS_gallop hC hB2.kind (ha _ (by simp)) hb (by omega) (by omega) fun k2 hk2 => ?_)
              dsimp only
              by_cases k2p : k2 > 0
              · rw [if_pos k2p]
                have pb2 := pb.appB k2
                by_cases f2 : ((ib) + 1 + k2 == b.size) = true
                · rw [if_pos f2]; exact wpS_pure ⟨hB2, .inl ⟨_, _, rfl, pb2.done⟩⟩
                rw [if_neg f2]
                have g2 : ¬ ((ib) + 1 + k2 = b.size) := by simpa using f2
                refine wpS_bind (wpS_elem (getElem?_pos a (ia) (by omega)) ?_)
                have pc := pb2.pushA (show ia < a.size by omega)
                by_cases f3 : ((ia) + 1 + 1 == a.size) = true
                · rw [if_pos f3]; exact wpS_pure ⟨hB2, .inl ⟨_, _, rfl, pc.last⟩⟩
                rw [if_neg f3]
                have g3 : ¬ ((ia) + 1 + 1 = a.size) := by simpa using f3
                split
                · exact wpS_pure ⟨hB2, .inr ⟨_, _, _, _, _, _, rfl, pc, by omega, by omega, by omega⟩⟩
                · exact wpS_pure ⟨hB2, ⟨_, _, _, _, _, _, rfl, pc, by omega, by omega, by omega⟩⟩
              · rw [if_neg k2p]
                refine wpS_bind (wpS_elem (getElem?_pos a (ia) (by omega)) ?_)
                have pc := pb.pushA (show ia < a.size by omega)
                by_cases f3 : ((ia) + 1 + 1 == a.size) = true
                · rw [if_pos f3]; exact wpS_pure ⟨hB2, .inl ⟨_, _, rfl, pc.last⟩⟩
                rw [if_neg f3]
                have g3 : ¬ ((ia) + 1 + 1 = a.size) := by simpa using f3
                split
                · exact wpS_pure ⟨hB2, .inr ⟨_, _, _, _, _, _, rfl, pc, by omega, by omega, by omega⟩⟩
                · exact wpS_pure ⟨hB2, ⟨_, _, _, _, _, _, rfl, pc, by omega, by omega, by omega⟩⟩
        · rintro c st2 ⟨hB1, hh⟩
          exact ⟨hB1, .inr hh⟩
        · rintro c st2 ⟨hB1, ⟨r, c', rfl, hp⟩ | ⟨out, ia, ib, mg, ac, bc, rfl, p1, la, lb, li⟩⟩
          · exact wpS_pure ⟨hB1, _, _, rfl, hp⟩
          · dsimp only
            rw [setMinGallop'_eq]
            refine wpS_bind (wpS_modify ?_)
            exact wpS_pure ⟨⟨hB1.arr, hB1.kind, hB1.failed, hB1.pend⟩, _, _, _, _, rfl, p1, la, lb, li⟩
  · rintro c st1 ⟨hB0, out, ia, ib, mg, rfl, p1, la, lb, li⟩
    omega
  · rintro c st1 ⟨hB0, r, c', rfl, hp⟩
    exact wpS_pure (h r st1 hp hB0)
end
end PyProof.Rows
namespace PyProof.Rows
open PySem
theorem mergeHi'_eq (a b : Array Keyed) : mergeHi' a b = (do
  rule "list.sort.merge-hi"
  let total := a.size + b.size
  let done (out : Array Keyed) (na nb : Nat) := a.extract 0 na ++ b.extract 0 nb ++ out.reverse
  let firstOfB (out : Array Keyed) (na nb : Nat) := b.extract 0 nb ++ a.extract 0 na ++ out.reverse
  let mut na := a.size - 1
  let mut nb := b.size
  let mut out : Array Keyed := #[← elem' a na]
  if na == 0 then return done out na nb
  if nb == 1 then return firstOfB out na nb
  let mut minGallop := gallopOf (← get)
  for _ in [0:total] do
    let mut acount := 0
    let mut bcount := 0
    for _ in [0:total] do
      let some aWins ← lt' (← elem' b (nb - 1)) (← elem' a (na - 1)) | return done out na nb
      if aWins then
        na := na - 1; out := out.push (← elem' a na); acount := acount + 1; bcount := 0
        if na == 0 then return done out na nb
        if acount ≥ minGallop then break
      else
        nb := nb - 1; out := out.push (← elem' b nb); bcount := bcount + 1; acount := 0
        if nb == 1 then return firstOfB out na nb
        if bcount ≥ minGallop then break
    rule "list.sort.gallop"
    minGallop := minGallop + 1
    for _ in [0:total] do
      if minGallop > 1 then minGallop := minGallop - 1
      setMinGallop' minGallop
      let some at_ ← gallop' false (← elem' b (nb - 1)) a 0 na (na - 1) | return done out na nb
      let k := na - at_
      acount := k
      if k > 0 then
        out := out ++ (a.extract at_ na).reverse; na := at_
        if na == 0 then return done out na nb
      nb := nb - 1; out := out.push (← elem' b nb)
      if nb == 1 then return firstOfB out na nb
      let some at_ ← gallop' true (← elem' a (na - 1)) b 0 nb (nb - 1) | return done out na nb
      let k := nb - at_
      bcount := k
      if k > 0 then
        out := out ++ (b.extract at_ nb).reverse; nb := at_
        if nb == 1 then return firstOfB out na nb
        if nb == 0 then return done out na nb
      na := na - 1; out := out.push (← elem' a na)
      if na == 0 then return done out na nb
      if acount < 7 && bcount < 7 then break
    minGallop := minGallop + 1
    setMinGallop' minGallop
  unsupported "internal:list.sort.merge-bound") := rfl
def PH (a b out : Array Keyed) (na nb : Nat) : Prop := out.toList.Perm (a.toList.drop na ++ b.toList.drop nb)
theorem PH.pushA {a b out : Array Keyed} {na nb : Nat} (h : PH a b out na nb) (h1 : 1 ≤ na) (hi : na - 1 < a.size) : PH a b (out.push a[na - 1]) (na - 1) nb := by
  unfold PH at h ⊢
  have e : a.toList.drop (na - 1) = a[na - 1] :: a.toList.drop na := by
    have := List.drop_eq_getElem_cons (l := a.toList) (i := na - 1) (by simpa using hi)
    rw [this, Nat.sub_add_cancel h1]
    simp
  rw [Array.toList_push, e]
  refine (h.append_right _).trans ?_
  exact List.perm_append_comm
theorem PH.pushB {a b out : Array Keyed} {na nb : Nat} (h : PH a b out na nb) (h1 : 1 ≤ nb) (hi : nb - 1 < b.size) : PH a b (out.push b[nb - 1]) na (nb - 1) := by
  unfold PH at h ⊢
  have e : b.toList.drop (nb - 1) = b[nb - 1] :: b.toList.drop nb := by
    have := List.drop_eq_getElem_cons (l := b.toList) (i := nb - 1) (by simpa using hi)
    rw [this, Nat.sub_add_cancel h1]
    simp
  rw [Array.toList_push, e]
  refine (h.append_right _).trans ?_
  rw [List.append_assoc]
  exact List.Perm.append_left _ List.perm_append_comm
theorem drop_cut {l : List Keyed} {i j : Nat} (h : i ≤ j) : l.drop i = (l.drop i).take (j - i) ++ l.drop j := by
  have := (List.take_append_drop (j - i) (l.drop i)).symm
  rw [List.drop_drop, show i + (j - i) = j by omega] at this
  exact this
theorem PH.appA {a b out : Array Keyed} {na nb : Nat} (h : PH a b out na nb) {k : Nat} (hk : k ≤ na) : PH a b (out ++ (a.extract k na).reverse) k nb := by
  unfold PH at h ⊢
  rw [Array.toList_append, Array.toList_reverse, ext_list]
  conv => rhs; rw [drop_cut hk]
  refine ((h.append_left _).trans ?_ |> fun z => (List.Perm.trans List.perm_append_comm ((List.reverse_perm _).append_right _)).trans z)
  rw [List.append_assoc]
theorem PH.appB {a b out : Array Keyed} {na nb : Nat} (h : PH a b out na nb) {k : Nat} (hk : k ≤ nb) : PH a b (out ++ (b.extract k nb).reverse) na k := by
  unfold PH at h ⊢
  rw [Array.toList_append, Array.toList_reverse, ext_list]
  conv => rhs; rw [drop_cut hk]
  refine (h.append_right _).trans ?_
  rw [List.append_assoc]
  refine List.Perm.append_left _ ?_
  exact List.perm_append_comm.trans ((List.reverse_perm _).append_right _)
theorem ext0 {a : Array Keyed} {j : Nat} : (a.extract 0 j).toList = a.toList.take j := by rw [ext_list, List.drop_zero, Nat.sub_zero]
theorem PH.done {a b out : Array Keyed} {na nb : Nat} (h : PH a b out na nb) : (a.extract 0 na ++ b.extract 0 nb ++ out.reverse).Perm (a ++ b) := by
  rw [Array.perm_iff_toList_perm]
  unfold PH at h
  rw [Array.toList_append, Array.toList_append, Array.toList_append, Array.toList_reverse, ext0, ext0]
  conv => rhs; rw [← List.take_append_drop na a.toList, ← List.take_append_drop nb b.toList]
  refine (List.Perm.append_left _ ((List.reverse_perm _).trans h)).trans ?_
  rw [List.append_assoc, List.append_assoc]
  refine List.Perm.append_left _ ?_
  rw [← List.append_assoc, ← List.append_assoc]
  exact List.Perm.append_right _ List.perm_append_comm
theorem PH.first {a b out : Array Keyed} {na nb : Nat} (h : PH a b out na nb) : (b.extract 0 nb ++ a.extract 0 na ++ out.reverse).Perm (a ++ b) := by
  refine Array.Perm.trans ?_ h.done
  rw [Array.perm_iff_toList_perm]
  rw [Array.toList_append, Array.toList_append, Array.toList_append, Array.toList_append]
  exact List.Perm.append_right _ List.perm_append_comm
section
variable {prog : Program} {w : World} {A : Around} {E : Value → Shared → Prop} {s : Shared} {κ : SortKind} {a₀ : Array Keyed} {pd : Array (Nat × Nat × Nat)} {ar : Array Keyed}
theorem wpS_mergeHi {st : SortSt} {a b : Array Keyed} {Q : Array Keyed → SortSt → Prop} (hC : Cmp prog w A s κ a₀) (hB : SM κ ar pd st) (ha : ∀ x ∈ a.toList, x ∈ a₀.toList) (hb : ∀ x ∈ b.toList, x ∈ a₀.toList) (a1 : 1 ≤ a.size) (b1 : 1 ≤ b.size)
    (h : ∀ out st', out.Perm (a ++ b) → SM κ ar pd st' → Q out st') : wpS (model prog w) A E s (mergeHi' a b) Q st := by
  rw [mergeHi'_eq]
  refine wpS_bind (wpS_lift (wpAny_rule ⟨rfl, ?_⟩))
  refine wpS_bind (wpS_elem (getElem?_pos a (a.size - 1) (by omega)) ?_)
  dsimp only
  have p0 : PH a b #[a[a.size - 1]] (a.size - 1) b.size := by
    have : PH a b #[] a.size b.size := by unfold PH; simp
    exact this.pushA a1 (by omega)
  by_cases e1 : (a.size - 1 == 0) = true
  · rw [if_pos e1]
    exact wpS_pure (h _ _ p0.done hB)
  rw [if_neg e1]
  have n1 : ¬ (a.size - 1 = 0) := by simpa using e1
  by_cases e2 : (b.size == 1) = true
  · rw [if_pos e2]
    exact wpS_pure (h _ _ p0.first hB)
  rw [if_neg e2]
  have n2 : ¬ (b.size = 1) := by simpa using e2
  refine wpS_bind (wpS_get ?_)
  refine wpS_bind (wpS_mono (wpS_forRange (I := fun i c st' => SM κ ar pd st' ∧ ∃ na nb out mg, c = (none, na, nb, out, mg) ∧ PH a b out na nb ∧ 1 ≤ na ∧ 2 ≤ nb ∧ na ≤ a.size ∧ nb ≤ b.size ∧ i + na + nb ≤ a.size + b.size) (Q := fun c st' => SM κ ar pd st' ∧ ∃ r c', c = (some r, c') ∧ r.Perm (a ++ b)) ?_ ?_ ⟨hB, _, _, _, _, rfl, p0, by omega, by omega, by omega, by omega, by omega⟩) ?_)
  · rintro i c st1 _ hi ⟨hB0, na, nb, out, mg, rfl, p1, la, lb, ma, mb, li⟩
    dsimp only
    refine wpS_bind (wpS_mono (wpS_forRange (I := fun x c st' => SM κ ar pd st' ∧ ∃ na nb out ac bc, c = (none, na, nb, out, ac, bc) ∧ PH a b out na nb ∧ 1 ≤ na ∧ 2 ≤ nb ∧ na ≤ a.size ∧ nb ≤ b.size ∧ i + x + na + nb ≤ a.size + b.size) (Q := fun c st' => SM κ ar pd st' ∧ ((∃ r c', c = (some r, c') ∧ r.Perm (a ++ b)) ∨ ∃ na nb out ac bc, c = (none, na, nb, out, ac, bc) ∧ PH a b out na nb ∧ 1 ≤ na ∧ 2 ≤ nb ∧ na ≤ a.size ∧ nb ≤ b.size ∧ i + 1 + na + nb ≤ a.size + b.size)) ?_ ?_ ⟨hB0, _, _, _, _, _, rfl, p1, la, lb, ma, mb, by omega⟩) ?_)
    · rintro x c st2 _ hx ⟨hB1, na, nb, out, ac, bc, rfl, p1, la, lb, ma, mb, li⟩
      dsimp only
      refine wpS_bind (wpS_elem (getElem?_pos b (nb - 1) (by omega)) ?_)
      refine wpS_bind (wpS_elem (getElem?_pos a (na - 1) (by omega)) ?_)
      refine wpS_bind (wpS_lt hC hB1.kind (hb _ (by simp)) (ha _ (by simp)) fun aw => ?_)
      cases aw
      · dsimp only
        rw [if_neg (by decide)]
        refine wpS_bind (wpS_elem (getElem?_pos b (nb - 1) (by omega)) ?_)
        have p2 := p1.pushB (show 1 ≤ nb by omega) (show nb - 1 < b.size by omega)
        by_cases f1 : (nb - 1 == 1) = true
        · rw [if_pos f1]; exact wpS_pure ⟨hB1, .inl ⟨_, _, rfl, p2.first⟩⟩
        rw [if_neg f1]
        have g1 : ¬ (nb - 1 = 1) := by simpa using f1
        split
        · exact wpS_pure ⟨hB1, .inr ⟨_, _, _, _, _, rfl, p2, by omega, by omega, by omega, by omega, by omega⟩⟩
        · exact wpS_pure ⟨hB1, _, _, _, _, _, rfl, p2, by omega, by omega, by omega, by omega, by omega⟩
      · dsimp only
        rw [if_pos rfl]
        refine wpS_bind (wpS_elem (getElem?_pos a (na - 1) (by omega)) ?_)
        have p2 := p1.pushA (show 1 ≤ na by omega) (show na - 1 < a.size by omega)
        by_cases f1 : (na - 1 == 0) = true
        · rw [if_pos f1]; exact wpS_pure ⟨hB1, .inl ⟨_, _, rfl, p2.done⟩⟩
        rw [if_neg f1]
        have g1 : ¬ (na - 1 = 0) := by simpa using f1
        split
        · exact wpS_pure ⟨hB1, .inr ⟨_, _, _, _, _, rfl, p2, by omega, by omega, by omega, by omega, by omega⟩⟩
        · exact wpS_pure ⟨hB1, _, _, _, _, _, rfl, p2, by omega, by omega, by omega, by omega, by omega⟩
    · rintro c st2 ⟨hB1, na, nb, out, ac, bc, rfl, p1, la, lb, ma, mb, li⟩
      exact ⟨hB1, .inr ⟨_, _, _, _, _, rfl, p1, la, lb, ma, mb, by omega⟩⟩
    · rintro c st2 ⟨hB1, ⟨r, c', rfl, hp⟩ | ⟨na, nb, out, ac, bc, rfl, p1, la, lb, ma, mb, li⟩⟩
      · exact wpS_pure ⟨hB1, _, _, rfl, hp⟩
      · dsimp only
        refine wpS_bind (wpS_lift (wpAny_rule ⟨rfl, ?_⟩))
        refine wpS_bind (wpS_mono (wpS_forRange (I := fun x c st' => SM κ ar pd st' ∧ ∃ na nb out mg ac bc, c = (none, na, nb, out, mg, ac, bc) ∧ PH a b out na nb ∧ 1 ≤ na ∧ 2 ≤ nb ∧ na ≤ a.size ∧ nb ≤ b.size ∧ i + 1 + na + nb ≤ a.size + b.size) (Q := fun c st' => SM κ ar pd st' ∧ ((∃ r c', c = (some r, c') ∧ r.Perm (a ++ b)) ∨ ∃ na nb out mg ac bc, c = (none, na, nb, out, mg, ac, bc) ∧ PH a b out na nb ∧ 1 ≤ na ∧ 2 ≤ nb ∧ na ≤ a.size ∧ nb ≤ b.size ∧ i + 1 + na + nb ≤ a.size + b.size)) ?_ ?_ ⟨hB1, _, _, _, _, _, _, rfl, p1, la, lb, ma, mb, li⟩) ?_)
        · rintro x c st2 _ hx ⟨hB1, na, nb, out, mg, ac, bc, rfl, p1, la, lb, ma, mb, li⟩
          dsimp only
          by_cases hmg : mg > 1
          · rw [if_pos hmg]
            rw [setMinGallop'_eq]
            refine wpS_bind (wpS_modify ?_)
            refine wpS_bind (wpS_elem (getElem?_pos b (nb - 1) (by omega)) ?_)
            have hB2 : SM κ ar pd (SortSt.mk' (kindOf st2) (arrOf st2) (pendingOf st2) (mg - 1) (failedOf st2)) := ⟨hB1.arr, hB1.kind, hB1.failed, hB1.pend⟩
            refine wpS_bind (wpS_gallop hC hB2.kind (hb _ (by simp)) ha (by omega) (by omega) fun k hk => ?_)
            dsimp only
            by_cases kp : na - k > 0
            · rw [if_pos kp]
              have p2 := p1.appA hk
              by_cases f4 : (k == 0) = true
              · rw [if_pos f4]; exact wpS_pure ⟨hB2, .inl ⟨_, _, rfl, p2.done⟩⟩
              rw [if_neg f4]
              have g4 : ¬ (k = 0) := by simpa using f4
              refine wpS_bind (wpS_elem (getElem?_pos b (nb - 1) (by omega)) ?_)
              have pb := p2.pushB (show 1 ≤ nb by omega) (show nb - 1 < b.size by omega)
              by_cases f1 : (nb - 1 == 1) = true
              · rw [if_pos f1]; exact wpS_pure ⟨hB2, .inl ⟨_, _, rfl, pb.first⟩⟩
              rw [if_neg f1]
              have g1 : ¬ (nb - 1 = 1) := by simpa using f1
              refine wpS_bind (wpS_elem (getElem?_pos a (k - 1) (by omega)) ?_)
              refine wpS_bind (wpS_gallop hC hB2.kind (ha _ (by simp)) hb (by omega) (by omega) fun k2 hk2 => ?_)
              dsimp only
              by_cases k2p : nb - 1 - k2 > 0
              · rw [if_pos k2p]
                have pb2 := pb.appB hk2
                by_cases f2 : (k2 == 1) = true
                · rw [if_pos f2]; exact wpS_pure ⟨hB2, .inl ⟨_, _, rfl, pb2.first⟩⟩
                rw [if_neg f2]
                have g2 : ¬ (k2 = 1) := by simpa using f2
                by_cases f6 : (k2 == 0) = true
                · rw [if_pos f6]; exact wpS_pure ⟨hB2, .inl ⟨_, _, rfl, pb2.done⟩⟩
                rw [if_neg f6]
                have g6 : ¬ (k2 = 0) := by simpa using f6
                refine wpS_bind (wpS_elem (getElem?_pos a (k - 1) (by omega)) ?_)
                have pc := pb2.pushA (show 1 ≤ k by omega) (show k - 1 < a.size by omega)
                by_cases f3 : (k - 1 == 0) = true
                · rw [if_pos f3]; exact wpS_pure ⟨hB2, .inl ⟨_, _, rfl, pc.done⟩⟩
                rw [if_neg f3]
                have g3 : ¬ (k - 1 = 0) := by simpa using f3
                split
                · exact wpS_pure ⟨hB2, .inr ⟨_, _, _, _, _, _, rfl, pc, by omega, by omega, by omega, by omega, by omega⟩⟩
                · exact wpS_pure ⟨hB2, ⟨_, _, _, _, _, _, rfl, pc, by omega, by omega, by omega, by omega, by omega⟩⟩
              · rw [if_neg k2p]
                refine wpS_bind (wpS_elem (getElem?_pos a (k - 1) (by omega)) ?_)
                have pc := pb.pushA (show 1 ≤ k by omega) (show k - 1 < a.size by omega)
                by_cases f3 : (k - 1 == 0) = true
                · rw [if_pos f3]; exact wpS_pure ⟨hB2, .inl ⟨_, _, rfl, pc.done⟩⟩
                rw [if_neg f3]
                have g3 : ¬ (k - 1 = 0) := by simpa using f3
                split
                · exact wpS_pure ⟨hB2, .inr ⟨_, _, _, _, _, _, rfl, pc, by omega, by omega, by omega, by omega, by omega⟩⟩
                · exact wpS_pure ⟨hB2, ⟨_, _, _, _, _, _, rfl, pc, by omega, by omega, by omega, by omega, by omega⟩⟩
            · rw [if_neg kp]
              refine wpS_bind (wpS_elem (getElem?_pos b (nb - 1) (by omega)) ?_)
              have pb := p1.pushB (show 1 ≤ nb by omega) (show nb - 1 < b.size by omega)
              by_cases f1 : (nb - 1 == 1) = true
              · rw [if_pos f1]; exact wpS_pure ⟨hB2, .inl ⟨_, _, rfl, pb.first⟩⟩
              rw [if_neg f1]
              have g1 : ¬ (nb - 1 = 1) := by simpa using f1
              refine wpS_bind (wpS_elem (getElem?_pos a (na - 1) (by omega)) ?_)
              refine wpS_bind (wpS_gallop hC hB2.kind (ha _ (by simp)) hb (by omega) (by omega) fun k2 hk2 => ?_)
              dsimp only
              by_cases k2p : nb - 1 - k2 > 0
              · rw [if_pos k2p]
                have pb2 := pb.appB hk2
                by_cases f2 : (k2 == 1) = true
                · rw [if_pos f2]; exact wpS_pure ⟨hB2, .inl ⟨_, _, rfl, pb2.first⟩⟩
                rw [if_neg f2]
                have g2 : ¬ (k2 = 1) := by simpa using f2
                by_cases f6 : (k2 == 0) = true
                · rw [if_pos f6]; exact wpS_pure ⟨hB2, .inl ⟨_, _, rfl, pb2.done⟩⟩
                rw [if_neg f6]
                have g6 : ¬ (k2 = 0) := by simpa using f6
                refine wpS_bind (wpS_elem (getElem?_pos a (na - 1) (by omega)) ?_)
                have pc := pb2.pushA (show 1 ≤ na by omega) (show na - 1 < a.size by omega)
                by_cases f3 : (na - 1 == 0) = true
                · rw [if_pos f3]; exact wpS_pure ⟨hB2, .inl ⟨_, _, rfl, pc.done⟩⟩
                rw [if_neg f3]
                have g3 : ¬ (na - 1 = 0) := by simpa using f3
                split
                · exact wpS_pure ⟨hB2, .inr ⟨_, _, _, _, _, _, rfl, pc, by omega, by omega, by omega, by omega, by omega⟩⟩
                · exact wpS_pure ⟨hB2, ⟨_, _, _, _, _, _, rfl, pc, by omega, by omega, by omega, by omega, by omega⟩⟩
              · rw [if_neg k2p]
                refine wpS_bind (wpS_elem (getElem?_pos a (na - 1) (by omega)) ?_)
                have pc := pb.pushA (show 1 ≤ na by omega) (show na - 1 < a.size by omega)
                by_cases f3 : (na - 1 == 0) = true
                · rw [if_pos f3]; exact wpS_pure ⟨hB2, .inl ⟨_, _, rfl, pc.done⟩⟩
                rw [if_neg f3]
                have g3 : ¬ (na - 1 = 0) := by simpa using f3
                split
                · exact wpS_pure ⟨hB2, .inr ⟨_, _, _, _, _, _, rfl, pc, by omega, by omega, by omega, by omega, by omega⟩⟩
                · exact wpS_pure ⟨hB2, ⟨_, _, _, _, _, _, rfl, pc, by omega, by omega, by omega, by omega, by omega⟩⟩
          · rw [if_neg hmg]
            rw [setMinGallop'_eq]
            refine wpS_bind (wpS_modify ?_)
            refine wpS_bind (wpS_elem (getElem?_pos b (nb - 1) (by omega)) ?_)
            have hB2 : SM κ ar pd (SortSt.mk' (kindOf st2) (arrOf st2) (pendingOf st2) mg (failedOf st2)) := ⟨hB1.arr, hB1.kind, hB1.failed, hB1.pend⟩
            refine wpS_bind (wpS_gallop hC hB2.kind (hb _ (by simp)) ha (by omega) (by omega) fun k hk => ?_)
            dsimp only
            by_cases kp : na - k > 0
            · rw [if_pos kp]
              have p2 := p1.appA hk
              by_cases f4 : (k == 0) = true
              · rw [if_pos f4]; exact wpS_pure ⟨hB2, .inl ⟨_, _, rfl, p2.done⟩⟩
              rw [if_neg f4]
              have g4 : ¬ (k = 0) := by simpa using f4
              refine wpS_bind (wpS_elem (getElem?_pos b (nb - 1) (by omega)) ?_)
              have pb := p2.pushB (show 1 ≤ nb by omega) (show nb - 1 < b.size by omega)
              by_cases f1 : (nb - 1 == 1) = true
              · rw [if_pos f1]; exact wpS_pure ⟨hB2, .inl ⟨_, _, rfl, pb.first⟩⟩
              rw [if_neg f1]
              have g1 : ¬ (nb - 1 = 1) := by simpa using f1
              refine wpS_bind (wpS_elem (getElem?_pos a (k - 1) (by omega)) ?_)
              refine wpS_bind (wpS_gallop hC hB2.kind (ha _ (by simp)) hb (by omega) (by omega) fun k2 hk2 => ?_)
              dsimp only
              by_cases k2p : nb - 1 - k2 > 0
              · rw [if_pos k2p]
                have pb2 := pb.appB hk2
                by_cases f2 : (k2 == 1) = true
                · rw [if_pos f2]; exact wpS_pure ⟨hB2, .inl ⟨_, _, rfl, pb2.first⟩⟩
                rw [if_neg f2]
                have g2 : ¬ (k2 = 1) := by simpa using f2
                by_cases f6 : (k2 == 0) = true
                · rw [if_pos f6]; exact wpS_pure ⟨hB2, .inl ⟨_, _, rfl, pb2.done⟩⟩
                rw [if_neg f6]
                have g6 : ¬ (k2 = 0) := by simpa using f6
                refine wpS_bind (wpS_elem (getElem?_pos a (k - 1) (by omega)) ?_)
                have pc := pb2.pushA (show 1 ≤ k by omega) (show k - 1 < a.size by omega)
                by_cases f3 : (k - 1 == 0) = true
                · rw [if_pos f3]; exact wpS_pure ⟨hB2, .inl ⟨_, _, rfl, pc.done⟩⟩
                rw [if_neg f3]
                have g3 : ¬ (k - 1 = 0) := by simpa using f3
                split
                · exact wpS_pure ⟨hB2, .inr ⟨_, _, _, _, _, _, rfl, pc, by omega, by omega, by omega, by omega, by omega⟩⟩
                · exact wpS_pure ⟨hB2, ⟨_, _, _, _, _, _, rfl, pc, by omega, by omega, by omega, by omega, by omega⟩⟩
              · rw [if_neg k2p]
                refine wpS_bind (wpS_elem (getElem?_pos a (k - 1) (by omega)) ?_)
                have pc := pb.pushA (show 1 ≤ k by omega) (show k - 1 < a.size by omega)
                by_cases f3 : (k - 1 == 0) = true
                · rw [if_pos f3]; exact wpS_pure ⟨hB2, .inl ⟨_, _, rfl, pc.done⟩⟩
                rw [if_neg f3]
                have g3 : ¬ (k - 1 = 0) := by simpa using f3
                split
                · exact wpS_pure ⟨hB2, .inr ⟨_, _, _, _, _, _, rfl, pc, by omega, by omega, by omega, by omega, by omega⟩⟩
                · exact wpS_pure ⟨hB2, ⟨_, _, _, _, _, _, rfl, pc, by omega, by omega, by omega, by omega, by omega⟩⟩
            · rw [if_neg kp]
              refine wpS_bind (wpS_elem (getElem?_pos b (nb - 1) (by omega)) ?_)
              have pb := p1.pushB (show 1 ≤ nb by omega) (show nb - 1 < b.size by omega)
              by_cases f1 : (nb - 1 == 1) = true
              · rw [if_pos f1]; exact wpS_pure ⟨hB2, .inl ⟨_, _, rfl, pb.first⟩⟩
              rw [if_neg f1]
              have g1 : ¬ (nb - 1 = 1) := by simpa using f1
              refine wpS_bind (wpS_elem (getElem?_pos a (na - 1) (by omega)) ?_)
              refine wpS_bind (wpS_gallop hC hB2.kind (ha _ (by simp)) hb (by omega) (by omega) fun k2 hk2 => ?_)
              dsimp only
              by_cases k2p : nb - 1 - k2 > 0
              · rw [if_pos k2p]
                have pb2 := pb.appB hk2
                by_cases f2 : (k2 == 1) = true
                · rw [if_pos f2]; exact wpS_pure ⟨hB2, .inl ⟨_, _, rfl, pb2.first⟩⟩
                rw [if_neg f2]
                have g2 : ¬ (k2 = 1) := by simpa using f2
                by_cases f6 : (k2 == 0) = true
                · rw [if_pos f6]; exact wpS_pure ⟨hB2, .inl ⟨_, _, rfl, pb2.done⟩⟩
                rw [if_neg f6]
                have g6 : ¬ (k2 = 0) := by simpa using f6
                refine wpS_bind (wpS_elem (getElem?_pos a (na - 1) (by omega)) ?_)
                have pc := pb2.pushA (show 1 ≤ na by omega) (show na - 1 < a.size by omega)
                by_cases f3 : (na - 1 == 0) = true
                · rw [if_pos f3]; exact wpS_pure ⟨hB2, .inl ⟨_, _, rfl, pc.done⟩⟩
                rw [if_neg f3]
                have g3 : ¬ (na - 1 = 0) := by simpa using f3
                split
                · exact wpS_pure ⟨hB2, .inr ⟨_, _, _, _, _, _, rfl, pc, by omega, by omega, by omega, by omega, by omega⟩⟩
                · exact wpS_pure ⟨hB2, ⟨_, _, _, _, _, _, rfl, pc, by omega, by omega, by omega, by omega, by omega⟩⟩
              · rw [if_neg k2p]
                refine wpS_bind (wpS_elem (getElem?_pos a (na - 1) (by omega)) ?_)
                have pc := pb.pushA (show 1 ≤ na by omega) (show na - 1 < a.size by omega)
                by_cases f3 : (na - 1 == 0) = true
                · rw [if_pos f3]; exact wpS_pure ⟨hB2, .inl ⟨_, _, rfl, pc.done⟩⟩
                rw [if_neg f3]
                have g3 : ¬ (na - 1 = 0) := by simpa using f3
                split
                · exact wpS_pure ⟨hB2, .inr ⟨_, _, _, _, _, _, rfl, pc, by omega, by omega, by omega, by omega, by omega⟩⟩
                · exact wpS_pure ⟨hB2, ⟨_, _, _, _, _, _, rfl, pc, by omega, by omega, by omega, by omega, by omega⟩⟩
        · rintro c st2 ⟨hB1, hh⟩
          exact ⟨hB1, .inr hh⟩
        · rintro c st2 ⟨hB1, ⟨r, c', rfl, hp⟩ | ⟨na, nb, out, mg, ac, bc, rfl, p1, la, lb, ma, mb, li⟩⟩
          · exact wpS_pure ⟨hB1, _, _, rfl, hp⟩
          · dsimp only
            rw [setMinGallop'_eq]
            refine wpS_bind (wpS_modify ?_)
            exact wpS_pure ⟨⟨hB1.arr, hB1.kind, hB1.failed, hB1.pend⟩, _, _, _, _, rfl, p1, la, lb, ma, mb, li⟩
  · rintro c st1 ⟨hB0, na, nb, out, mg, rfl, p1, la, lb, ma, mb, li⟩
    omega
  · rintro c st1 ⟨hB0, r, c', rfl, hp⟩
    exact wpS_pure (h r st1 hp hB0)
end
end PyProof.Rows
namespace PyProof.Rows
open PySem
section
variable {prog : Program} {w : World} {A : Around} {E : Value → Shared → Prop} {s : Shared} {κ : SortKind} {a₀ : Array Keyed} {pd : Array (Nat × Nat × Nat)}
theorem wpS_count {st : SortSt} {lo nrem : Nat} {Q : Option Nat → SortSt → Prop} (hC : Cmp prog w A s κ a₀) (hn : lo + nrem ≤ a₀.size) (h1 : 1 ≤ nrem) (hB : SQ κ a₀ pd st) (h : ∀ n st', SQ κ a₀ pd st' → 1 ≤ n → n ≤ nrem → Q (some n) st') : wpS (model prog w) A E s (countRun' lo nrem) Q st := by
  rw [countRun'_eq]
  refine wpS_bind (wpS_mono (wpS_forRange (I := fun i c st' => SQ κ a₀ pd st' ∧ ∃ m, c = (none, m) ∧ m = i) (Q := fun c st' => SQ κ a₀ pd st' ∧ ∃ m, c = (none, m) ∧ 1 ≤ m ∧ m ≤ nrem) ?_ ?_ ⟨hB, _, rfl, rfl⟩) ?_)
  · rintro i c st1 hi1 hi2 ⟨hB1, m, rfl, rfl⟩
    dsimp only
    refine wpS_bind (wpS_ltQ hC hB1 (by omega) (by omega) fun b1 => ?_)
    cases b1
    · exact wpS_pure ⟨hB1, _, rfl, rfl⟩
    · exact wpS_pure ⟨hB1, _, rfl, by omega, by omega⟩
  · rintro c st1 ⟨hB1, m, rfl, rfl⟩
    exact ⟨hB1, _, rfl, by omega, by omega⟩
  · rintro c st1 ⟨hB1, n, rfl, n1, n2⟩
    dsimp only
    by_cases e1 : (n == nrem) = true
    · rw [if_pos e1]; exact wpS_pure (h n st1 hB1 n1 n2)
    rw [if_neg e1]
    have g1 : ¬ (n = nrem) := by simpa using e1
    by_cases e2 : n > 1
    · rw [if_pos e2]
      refine wpS_bind (wpS_ltQ hC hB1 (by omega) (by omega) fun b2 => ?_)
      cases b2
      · dsimp only
        rw [if_neg (by decide)]
        refine wpS_bind (wpS_rev hB1 fun st2 hB2 => ?_)
        refine wpS_bind (wpS_lift (wpAny_rule ⟨rfl, ?_⟩))
        refine wpS_bind (wpS_mono (wpS_forRange (I := fun i c st' => SQ κ a₀ pd st' ∧ ∃ m q, c = (none, m, q) ∧ m = i) (Q := fun c st' => SQ κ a₀ pd st' ∧ ∃ m q, c = (none, m, q) ∧ 1 ≤ m ∧ m ≤ nrem) ?_ ?_ ⟨hB2, _, _, rfl, rfl⟩) ?_)
        · rintro i c st3 hi1 hi2 ⟨hB3, m, q, rfl, rfl⟩
          dsimp only
          refine wpS_bind (wpS_ltQ hC hB3 (by omega) (by omega) fun b3 => ?_)
          cases b3
          · dsimp only
            rw [if_neg (by decide)]
            refine wpS_bind (wpS_ltQ hC hB3 (by omega) (by omega) fun b4 => ?_)
            cases b4
            · exact wpS_pure ⟨hB3, _, _, rfl, rfl⟩
            · exact wpS_pure ⟨hB3, _, _, rfl, by omega, by omega⟩
          · dsimp only
            rw [if_pos rfl]
            split
            · exact wpS_bind (wpS_rev hB3 fun st4 hB4 => wpS_pure ⟨hB4, _, _, rfl, rfl⟩)
            · exact wpS_pure ⟨hB3, _, _, rfl, rfl⟩
        · rintro c st3 ⟨hB3, m, q, rfl, rfl⟩
          exact ⟨hB3, _, _, rfl, by omega, by omega⟩
        · rintro c st3 ⟨hB3, m, q, rfl, m1, m2⟩
          dsimp only
          split
          · refine wpS_bind (wpS_rev hB3 fun st4 hB4 => ?_)
            refine wpS_bind (wpS_rev hB4 fun st5 hB5 => ?_)
            refine wpS_bind (wpS_mono (wpS_forRange (I := fun i c st' => SQ κ a₀ pd st' ∧ ∃ m, c = (none, m) ∧ m = i) (Q := fun c st' => SQ κ a₀ pd st' ∧ ∃ m, c = (none, m) ∧ 1 ≤ m ∧ m ≤ nrem) ?_ ?_ ⟨hB5, _, rfl, rfl⟩) ?_)
            · rintro i c st6 hi1 hi2 ⟨hB6, m, rfl, rfl⟩
              dsimp only
              refine wpS_bind (wpS_ltQ hC hB6 (by omega) (by omega) fun b6 => ?_)
              cases b6
              · exact wpS_pure ⟨hB6, _, rfl, rfl⟩
              · exact wpS_pure ⟨hB6, _, rfl, by omega, by omega⟩
            · rintro c st6 ⟨hB6, m, rfl, rfl⟩
              exact ⟨hB6, _, rfl, by omega, by omega⟩
            · rintro c st6 ⟨hB6, m, rfl, h1, h2⟩
              exact wpS_pure (h m st6 hB6 h1 h2)
          · refine wpS_bind (wpS_rev hB3 fun st5 hB5 => ?_)
            refine wpS_bind (wpS_mono (wpS_forRange (I := fun i c st' => SQ κ a₀ pd st' ∧ ∃ m, c = (none, m) ∧ m = i) (Q := fun c st' => SQ κ a₀ pd st' ∧ ∃ m, c = (none, m) ∧ 1 ≤ m ∧ m ≤ nrem) ?_ ?_ ⟨hB5, _, rfl, rfl⟩) ?_)
            · rintro i c st6 hi1 hi2 ⟨hB6, m, rfl, rfl⟩
              dsimp only
              refine wpS_bind (wpS_ltQ hC hB6 (by omega) (by omega) fun b6 => ?_)
              cases b6
              · exact wpS_pure ⟨hB6, _, rfl, rfl⟩
              · exact wpS_pure ⟨hB6, _, rfl, by omega, by omega⟩
            · rintro c st6 ⟨hB6, m, rfl, rfl⟩
              exact ⟨hB6, _, rfl, by omega, by omega⟩
            · rintro c st6 ⟨hB6, m, rfl, h1, h2⟩
              exact wpS_pure (h m st6 hB6 h1 h2)
      · exact wpS_pure (h n st1 hB1 n1 n2)
    · rw [if_neg e2]
      have hB2 := hB1
      refine wpS_bind (wpS_lift (wpAny_rule ⟨rfl, ?_⟩))
      refine wpS_bind (wpS_mono (wpS_forRange (I := fun i c st' => SQ κ a₀ pd st' ∧ ∃ m q, c = (none, m, q) ∧ m = i) (Q := fun c st' => SQ κ a₀ pd st' ∧ ∃ m q, c = (none, m, q) ∧ 1 ≤ m ∧ m ≤ nrem) ?_ ?_ ⟨hB2, _, _, rfl, rfl⟩) ?_)
      · rintro i c st3 hi1 hi2 ⟨hB3, m, q, rfl, rfl⟩
        dsimp only
        refine wpS_bind (wpS_ltQ hC hB3 (by omega) (by omega) fun b3 => ?_)
        cases b3
        · dsimp only
          rw [if_neg (by decide)]
          refine wpS_bind (wpS_ltQ hC hB3 (by omega) (by omega) fun b4 => ?_)
          cases b4
          · exact wpS_pure ⟨hB3, _, _, rfl, rfl⟩
          · exact wpS_pure ⟨hB3, _, _, rfl, by omega, by omega⟩
        · dsimp only
          rw [if_pos rfl]
          split
          · exact wpS_bind (wpS_rev hB3 fun st4 hB4 => wpS_pure ⟨hB4, _, _, rfl, rfl⟩)
          · exact wpS_pure ⟨hB3, _, _, rfl, rfl⟩
      · rintro c st3 ⟨hB3, m, q, rfl, rfl⟩
        exact ⟨hB3, _, _, rfl, by omega, by omega⟩
      · rintro c st3 ⟨hB3, m, q, rfl, m1, m2⟩
        dsimp only
        split
        · refine wpS_bind (wpS_rev hB3 fun st4 hB4 => ?_)
          refine wpS_bind (wpS_rev hB4 fun st5 hB5 => ?_)
          refine wpS_bind (wpS_mono (wpS_forRange (I := fun i c st' => SQ κ a₀ pd st' ∧ ∃ m, c = (none, m) ∧ m = i) (Q := fun c st' => SQ κ a₀ pd st' ∧ ∃ m, c = (none, m) ∧ 1 ≤ m ∧ m ≤ nrem) ?_ ?_ ⟨hB5, _, rfl, rfl⟩) ?_)
          · rintro i c st6 hi1 hi2 ⟨hB6, m, rfl, rfl⟩
            dsimp only
            refine wpS_bind (wpS_ltQ hC hB6 (by omega) (by omega) fun b6 => ?_)
            cases b6
            · exact wpS_pure ⟨hB6, _, rfl, rfl⟩
            · exact wpS_pure ⟨hB6, _, rfl, by omega, by omega⟩
          · rintro c st6 ⟨hB6, m, rfl, rfl⟩
            exact ⟨hB6, _, rfl, by omega, by omega⟩
          · rintro c st6 ⟨hB6, m, rfl, h1, h2⟩
            exact wpS_pure (h m st6 hB6 h1 h2)
        · refine wpS_bind (wpS_rev hB3 fun st5 hB5 => ?_)
          refine wpS_bind (wpS_mono (wpS_forRange (I := fun i c st' => SQ κ a₀ pd st' ∧ ∃ m, c = (none, m) ∧ m = i) (Q := fun c st' => SQ κ a₀ pd st' ∧ ∃ m, c = (none, m) ∧ 1 ≤ m ∧ m ≤ nrem) ?_ ?_ ⟨hB5, _, rfl, rfl⟩) ?_)
          · rintro i c st6 hi1 hi2 ⟨hB6, m, rfl, rfl⟩
            dsimp only
            refine wpS_bind (wpS_ltQ hC hB6 (by omega) (by omega) fun b6 => ?_)
            cases b6
            · exact wpS_pure ⟨hB6, _, rfl, rfl⟩
            · exact wpS_pure ⟨hB6, _, rfl, by omega, by omega⟩
          · rintro c st6 ⟨hB6, m, rfl, rfl⟩
            exact ⟨hB6, _, rfl, by omega, by omega⟩
          · rintro c st6 ⟨hB6, m, rfl, h1, h2⟩
            exact wpS_pure (h m st6 hB6 h1 h2)
end
end PyProof.Rows
namespace PyProof.Rows
open PySem
abbrev Run := Nat × Nat × Nat
def Runs : List Run → Nat → Nat → Prop
  | [], s, e => s = e
  | r :: rs, s, e => r.1 = s ∧ 1 ≤ r.2.1 ∧ Runs rs (s + r.2.1) e
theorem Runs.le : ∀ {l : List Run} {s e : Nat}, Runs l s e → s ≤ e
  | [], _, _, h => Nat.le_of_eq h
  | r :: rs, s, e, ⟨_, h2, h3⟩ => by have := h3.le; omega
theorem Runs.two : ∀ {l : List Run} {s e i : Nat} {x y : Run}, Runs l s e → l[i]? = some x → l[i + 1]? = some y →
    x.1 + x.2.1 = y.1 ∧ y.1 + y.2.1 ≤ e ∧ 1 ≤ x.2.1 ∧ 1 ≤ y.2.1 ∧ ∀ p, Runs ((l.set i (x.1, x.2.1 + y.2.1, p)).eraseIdx (i + 1)) s e
  | r :: q :: rs, s, e, 0, x, y, ⟨h1, h2, h3, h4, h5⟩, hx, hy => by
    obtain rfl := Option.some.inj hx
    obtain rfl := Option.some.inj hy
    have := h5.le
    refine ⟨by omega, by omega, h2, h4, fun p => ⟨h1, by show 1 ≤ r.2.1 + q.2.1; omega, ?_⟩⟩
    show Runs rs (s + (r.2.1 + q.2.1)) e
    rw [← Nat.add_assoc]; exact h5
  | r :: rs, s, e, i + 1, x, y, ⟨h1, h2, h3⟩, hx, hy => by
    obtain ⟨a1, a2, a3, a4, a5⟩ := Runs.two (i := i) h3 hx hy
    exact ⟨a1, a2, a3, a4, fun p => ⟨h1, h2, a5 p⟩⟩
theorem Runs.push : ∀ {l : List Run} {s e n p : Nat}, Runs l s e → 1 ≤ n → Runs (l ++ [(e, n, p)]) s (e + n)
  | [], s, e, n, p, h, hn => ⟨h.symm, hn, by rw [h]; rfl⟩
  | r :: rs, s, e, n, p, ⟨h1, h2, h3⟩, hn => ⟨h1, h2, Runs.push h3 hn⟩
theorem Runs.pw : ∀ {l : List Run} {s e : Nat} (i p : Nat), Runs l s e → Runs (l.modify i fun r => (r.1, r.2.1, p)) s e
  | [], s, e, i, p, h => by cases i <;> exact h
  | r :: rs, s, e, 0, p, ⟨h1, h2, h3⟩ => ⟨h1, h2, h3⟩
  | r :: rs, s, e, i + 1, p, ⟨h1, h2, h3⟩ => ⟨h1, h2, Runs.pw i p h3⟩
theorem wpS_set {M : Model} {A : Around} {E : Value → Shared → Prop} {s : Shared} {σ : Type} {x : σ} {Q : PUnit → σ → Prop} {st : σ} (h : Q ⟨⟩ x) : wpS M A E s (set x : StateT σ Sem PUnit) Q st := by
  unfold wpS; rw [StateT.run_set]; exact wpAny_pure ⟨rfl, h⟩
theorem mergeAt'_eq (i : Nat) : mergeAt' i = (do
  let s ← get
  let (some (sa, na, power), some (sb, nb, _)) := ((pendingOf s)[i]?, (pendingOf s)[i + 1]?) | unsupported "internal:list.sort.pending"
  set (setPending s (((pendingOf s).setIfInBounds i (sa, na + nb, power)).eraseIdxIfInBounds (i + 1)))
  let some k ← gallop' false (← elem' (arrOf s) sb) (arrOf s) sa na 0 | return false
  let (sa, na) := (sa + k, na - k)
  if na == 0 then return true
  let some nb ← gallop' true (← elem' (arrOf s) (sa + na - 1)) (arrOf s) sb nb (nb - 1) | return false
  if nb == 0 then return true
  let x := (arrOf s).extract sa sb
  let y := (arrOf s).extract sb (sb + nb)
  let merged ← if na ≤ nb then mergeLo' x y else mergeHi' x y
  modify fun s => setArr s (merged.toList.zipIdx.foldl (fun a (p, j) => a.setIfInBounds (sa + j) p) (arrOf s))
  return (failedOf (← get)).isNone) := rfl
theorem write_list {sa : Nat} : ∀ (l : List Keyed) (k : Nat) (arr : Array Keyed), sa + k + l.length ≤ arr.size →
    ((l.zipIdx k).foldl (fun (a : Array Keyed) (x : Keyed × Nat) => a.setIfInBounds (sa + x.2) x.1) arr).toList = arr.toList.take (sa + k) ++ l ++ arr.toList.drop (sa + k + l.length)
  | [], k, arr, _ => by simp
  | x :: l, k, arr, h => by
    rw [List.length_cons] at h
    have hs : sa + k < arr.toList.length := by rw [Array.length_toList]; omega
    rw [List.zipIdx_cons, List.foldl_cons, write_list l (k + 1) _ (by rw [Array.size_setIfInBounds]; omega), Array.toList_setIfInBounds]
    dsimp only
    have e1 : (arr.toList.set (sa + k) x).take (sa + (k + 1)) = arr.toList.take (sa + k) ++ [x] := by
      rw [← Nat.add_assoc, List.take_add_one, List.getElem?_set_self hs, List.take_set_of_le (Nat.le_refl _)]
      rfl
    have e2 : (arr.toList.set (sa + k) x).drop (sa + (k + 1) + l.length) = arr.toList.drop (sa + k + (x :: l).length) := by
      rw [List.drop_set_of_lt (by omega), List.length_cons]
      congr 1; omega
    rw [e1, e2, List.append_assoc, List.append_assoc, List.append_assoc]
    rfl
section
variable {prog : Program} {w : World} {A : Around} {E : Value → Shared → Prop} {s : Shared} {κ : SortKind} {a₀ : Array Keyed}
def SR (κ : SortKind) (a₀ : Array Keyed) (lo : Nat) (st : SortSt) : Prop := ∃ pd, SQ κ a₀ pd st ∧ Runs pd.toList 0 lo ∧ lo ≤ a₀.size
theorem wpS_mergeAt {st : SortSt} {i lo : Nat} {Q : Bool → SortSt → Prop} (hC : Cmp prog w A s κ a₀) (hB : SR κ a₀ lo st) (hi : i + 1 < (pendingOf st).size) (h : ∀ st', SR κ a₀ lo st' → Q true st') : wpS (model prog w) A E s (mergeAt' i) Q st := by
  obtain ⟨pd, hq, hr, hlo⟩ := hB
  rw [hq.pend] at hi
  rw [mergeAt'_eq]
  refine wpS_bind (wpS_get ?_)
  have e1 : pd[i]? = some pd[i] := getElem?_pos pd i (by omega)
  have e2 : pd[i + 1]? = some pd[i + 1] := getElem?_pos pd (i + 1) hi
  obtain ⟨a1, a2, a3, a4, a5⟩ := hr.two (i := i) (x := pd[i]) (y := pd[i + 1]) (by simpa using e1) (by simpa using e2)
  rw [hq.pend, e1, e2]
  revert a1 a2 a3 a4 a5
  generalize pd[i] = x
  generalize pd[i + 1] = y
  obtain ⟨sa, na, pw⟩ := x
  obtain ⟨sb, nb, pw2⟩ := y
  intro a1 a2 a3 a4 a5
  dsimp only at a1 a2 a3 a4 a5 ⊢
  obtain ⟨pd', hpd'⟩ : ∃ pd', pd' = (pd.setIfInBounds i (sa, na + nb, pw)).eraseIdxIfInBounds (i + 1) := ⟨_, rfl⟩
  have hr' : Runs pd'.toList 0 lo := by
    rw [hpd', Array.toList_eraseIdxIfInBounds, Array.toList_setIfInBounds]
    exact a5 pw
  refine wpS_bind (wpS_set ?_)
  rw [← hpd']
  have hq1 : SM κ (arrOf st) pd' (setPending st pd') := ⟨rfl, hq.kind, hq.failed, rfl⟩
  have hsz := hq.size
  have hin : ∀ x ∈ (arrOf st).toList, x ∈ a₀.toList := fun x hx => (Array.perm_iff_toList_perm.mp hq.perm).mem_iff.mp hx
  have fin : ∀ st', SM κ (arrOf st) pd' st' → SR κ a₀ lo st' := fun st' m => ⟨pd', ⟨by rw [m.arr]; exact hq.perm, m.kind, m.failed, m.pend⟩, hr', hlo⟩
  refine wpS_bind (wpS_elem (getElem?_pos (arrOf st) sb (by omega)) ?_)
  refine wpS_bind (wpS_gallop hC hq1.kind (hin _ (by simp)) hin (by omega) (by omega) fun k hk => ?_)
  dsimp only
  by_cases f1 : (na - k == 0) = true
  · rw [if_pos f1]; exact wpS_pure (h _ (fin _ hq1))
  rw [if_neg f1]
  have g1 : ¬ (na - k = 0) := by simpa using f1
  refine wpS_bind (wpS_elem (getElem?_pos (arrOf st) (sa + k + (na - k) - 1) (by omega)) ?_)
  refine wpS_bind (wpS_gallop hC hq1.kind (hin _ (by simp)) hin (by omega) (by omega) fun k2 hk2 => ?_)
  dsimp only
  by_cases f2 : (k2 == 0) = true
  · rw [if_pos f2]; exact wpS_pure (h _ (fin _ hq1))
  rw [if_neg f2]
  have g2 : ¬ (k2 = 0) := by simpa using f2
  have hx : ∀ x ∈ ((arrOf st).extract (sa + k) sb).toList, x ∈ a₀.toList := fun x hx => hin x (by rw [ext_list] at hx; exact List.mem_of_mem_drop (List.mem_of_mem_take hx))
  have hy : ∀ x ∈ ((arrOf st).extract sb (sb + k2)).toList, x ∈ a₀.toList := fun x hx => hin x (by rw [ext_list] at hx; exact List.mem_of_mem_drop (List.mem_of_mem_take hx))
  have sx : ((arrOf st).extract (sa + k) sb).size = sb - (sa + k) := by rw [Array.size_extract]; omega
  have sy : ((arrOf st).extract sb (sb + k2)).size = k2 := by rw [Array.size_extract]; omega
  have last : ∀ (out : Array Keyed) (st' : SortSt), out.Perm ((arrOf st).extract (sa + k) sb ++ (arrOf st).extract sb (sb + k2)) → SM κ (arrOf st) pd' st' → wpS (model prog w) A E s (do
      modify fun s => setArr s (out.toList.zipIdx.foldl (fun a (p, j) => a.setIfInBounds (sa + k + j) p) (arrOf s))
      return (failedOf (← get)).isNone) Q st' := by
    intro out st' hp m
    refine wpS_bind (wpS_modify ?_)
    refine wpS_bind (wpS_get (wpS_pure ?_))
    have osz : out.toList.length = sb - (sa + k) + k2 := by
      rw [Array.length_toList, hp.size_eq, Array.size_append, sx, sy]
    have wl := write_list (sa := sa + k) out.toList 0 (arrOf st') (by rw [m.arr, osz]; omega)
    have pm : (out.toList.zipIdx.foldl (fun a (p, j) => a.setIfInBounds (sa + k + j) p) (arrOf st')).Perm (arrOf st) := by
      rw [Array.perm_iff_toList_perm]
      refine (List.Perm.of_eq wl).trans ?_
      rw [m.arr, osz, Nat.add_zero]
      have hp' := Array.perm_iff_toList_perm.mp hp
      rw [Array.toList_append, ext_list, ext_list] at hp'
      refine ((hp'.append_left _).append_right _).trans ?_
      have e1 : (arrOf st).toList.drop (sa + k) = ((arrOf st).toList.drop (sa + k)).take (sb - (sa + k)) ++ (arrOf st).toList.drop sb := drop_cut (by omega)
      have e2 : (arrOf st).toList.drop sb = ((arrOf st).toList.drop sb).take (sb + k2 - sb) ++ (arrOf st).toList.drop (sb + k2) := drop_cut (by omega)
      have e3 : sa + k + (sb - (sa + k) + k2) = sb + k2 := by omega
      rw [e3]
      refine List.Perm.of_eq ?_
      conv => rhs; rw [← List.take_append_drop (sa + k) (arrOf st).toList, e1, e2]
      simp only [List.append_assoc]
    have hf : (failedOf st').isNone = true := by rw [m.failed]; rfl
    show Q (failedOf st').isNone _
    rw [hf]
    exact h _ ⟨pd', ⟨pm.trans hq.perm, m.kind, m.failed, m.pend⟩, hr', hlo⟩
  by_cases f3 : na - k ≤ k2
  · rw [if_pos f3]
    exact wpS_bind (wpS_mergeLo hC hq1 hx hy (by omega) (by omega) fun out st' hp m => last out st' hp m)
  · rw [if_neg f3]
    exact wpS_bind (wpS_mergeHi hC hq1 hx hy (by omega) (by omega) fun out st' hp m => last out st' hp m)
end
end PyProof.Rows
namespace PyProof.Rows
open PySem
section
variable {prog : Program} {w : World} {A : Around} {E : Value → Shared → Prop} {s : Shared} {κ : SortKind} {a₀ : Array Keyed}
theorem ite_pred_le {c : Prop} [Decidable c] {x : Nat} : (if c then x - 1 else x) ≤ x := by split <;> omega
theorem SR.pw {lo : Nat} {st : SortSt} (h : SR κ a₀ lo st) (i p : Nat) : SR κ a₀ lo (setPending st ((pendingOf st).modify i fun r => (r.1, r.2.1, p))) := by
  obtain ⟨pd, hq, hr, hl⟩ := h
  refine ⟨_, ⟨hq.perm, hq.kind, hq.failed, rfl⟩, ?_, hl⟩
  show Runs ((pendingOf st).modify i fun r => (r.1, r.2.1, p)).toList 0 lo
  rw [hq.pend, Array.toList_modify]
  exact hr.pw i p
theorem SR.push {lo n : Nat} {st : SortSt} (h : SR κ a₀ lo st) (h1 : 1 ≤ n) (hn : lo + n ≤ a₀.size) : SR κ a₀ (lo + n) (setPending st ((pendingOf st).push (lo, n, 0))) := by
  obtain ⟨pd, hq, hr, hl⟩ := h
  refine ⟨_, ⟨hq.perm, hq.kind, hq.failed, rfl⟩, ?_, hn⟩
  show Runs ((pendingOf st).push (lo, n, 0)).toList 0 (lo + n)
  rw [hq.pend, Array.toList_push]
  exact hr.push h1
theorem wpS_sorts {st : SortSt} {Q : Unit → SortSt → Prop} (hC : Cmp prog w A s κ a₀) (hp : (arrOf st).Perm a₀) (hk : kindOf st = κ) (hf : failedOf st = none) (hpd : pendingOf st = #[])
    (h : ∀ st', (arrOf st').Perm a₀ → failedOf st' = none → Q () st') : wpS (model prog w) A E s sortRuns' Q st := by
  have h0 : SR κ a₀ 0 st := ⟨#[], ⟨hp, hk, hf, hpd⟩, rfl, Nat.zero_le _⟩
  have hsz : (arrOf st).size = a₀.size := hp.size_eq
  rw [sortRuns'_eq]
  refine wpS_bind (wpS_get ?_)
  dsimp only
  rw [hsz]
  refine wpS_bind (wpS_mono (wpS_forRange (I := fun _ c st' => ∃ lo, c = (none, lo) ∧ SR κ a₀ lo st') (Q := fun c st' => ∃ lo, c = (none, lo) ∧ SR κ a₀ lo st') ?_ (fun c st' hh => hh) ⟨0, rfl, h0⟩) ?_)
  · rintro i c st1 _ _ ⟨lo, rfl, hR⟩
    dsimp only
    by_cases e1 : lo ≥ a₀.size
    · rw [if_pos e1]; exact wpS_pure ⟨lo, rfl, hR⟩
    rw [if_neg e1]
    have hlo : lo < a₀.size := by omega
    obtain ⟨pd, hq, hr, hl⟩ := hR
    refine wpS_bind (wpS_count hC (by omega) (by omega) hq fun n st2 hq2 n1 n2 => ?_)
    dsimp only
    by_cases hm : n < minRun' a₀.size a₀.size 0
    · rw [if_pos hm]
      refine wpS_bind (wpS_lift (wpAny_rule ⟨rfl, ?_⟩))
      refine wpS_bind (wpS_bin hC (by omega) hq2 fun st3 hq3 => ?_)
      simp only [Bool.not_true, Bool.false_eq_true, if_false]
      have hR3 : SR κ a₀ lo st3 := ⟨pd, hq3, hr, hl⟩
      refine wpS_bind (wpS_get ?_)
      cases hb : (pendingOf st3).back? with
      | none =>
        dsimp only
        exact wpS_bind (wpS_modify (wpS_pure ⟨_, rfl, hR3.push (by omega) (by omega)⟩))
      | some r =>
        obtain ⟨s1, n1', pw1⟩ := r
        dsimp only
        refine wpS_bind (wpS_mono (wpS_forRange (I := fun _ c st' => c = (none, ()) ∧ SR κ a₀ lo st') (Q := fun c st' => c = (none, ()) ∧ SR κ a₀ lo st') ?_ (fun c st' hh => hh) ⟨rfl, hR3⟩) ?_)
        · rintro x c st4 _ _ ⟨rfl, hR4⟩
          refine wpS_bind (wpS_get ?_)
          by_cases hs : (pendingOf st4).size > 1
          · rw [if_pos hs, getElem?_pos (pendingOf st4) ((pendingOf st4).size - 2) (by omega)]
            generalize (pendingOf st4)[(pendingOf st4).size - 2] = r4
            obtain ⟨_, _, older⟩ := r4
            dsimp only
            split
            · exact wpS_pure ⟨rfl, hR4⟩
            · refine wpS_bind (wpS_mergeAt hC hR4 (by omega) fun st5 hR5 => ?_)
              simp only [Bool.not_true, Bool.false_eq_true, if_false]
              exact wpS_pure ⟨rfl, hR5⟩
          · rw [if_neg hs]; exact wpS_pure ⟨rfl, hR4⟩
        · rintro c st4 ⟨rfl, hR4⟩
          dsimp only
          exact wpS_bind (wpS_modify (wpS_bind (wpS_modify (wpS_pure ⟨_, rfl, (hR4.pw _ _).push (by omega) (by omega)⟩))))
    · rw [if_neg hm]
      have hR3 : SR κ a₀ lo st2 := ⟨pd, hq2, hr, hl⟩
      refine wpS_bind (wpS_get ?_)
      cases hb : (pendingOf st2).back? with
      | none =>
        dsimp only
        exact wpS_bind (wpS_modify (wpS_pure ⟨_, rfl, hR3.push (by omega) (by omega)⟩))
      | some r =>
        obtain ⟨s1, n1', pw1⟩ := r
        dsimp only
        refine wpS_bind (wpS_mono (wpS_forRange (I := fun _ c st' => c = (none, ()) ∧ SR κ a₀ lo st') (Q := fun c st' => c = (none, ()) ∧ SR κ a₀ lo st') ?_ (fun c st' hh => hh) ⟨rfl, hR3⟩) ?_)
        · rintro x c st4 _ _ ⟨rfl, hR4⟩
          refine wpS_bind (wpS_get ?_)
          by_cases hs : (pendingOf st4).size > 1
          · rw [if_pos hs, getElem?_pos (pendingOf st4) ((pendingOf st4).size - 2) (by omega)]
            generalize (pendingOf st4)[(pendingOf st4).size - 2] = r4
            obtain ⟨_, _, older⟩ := r4
            dsimp only
            split
            · exact wpS_pure ⟨rfl, hR4⟩
            · refine wpS_bind (wpS_mergeAt hC hR4 (by omega) fun st5 hR5 => ?_)
              simp only [Bool.not_true, Bool.false_eq_true, if_false]
              exact wpS_pure ⟨rfl, hR5⟩
          · rw [if_neg hs]; exact wpS_pure ⟨rfl, hR4⟩
        · rintro c st4 ⟨rfl, hR4⟩
          dsimp only
          exact wpS_bind (wpS_modify (wpS_bind (wpS_modify (wpS_pure ⟨_, rfl, (hR4.pw _ _).push (by omega) (by omega)⟩))))
  · rintro c st1 ⟨lo, rfl, hR⟩
    dsimp only
    refine wpS_bind (wpS_mono (wpS_forRange (I := fun _ c st' => c = (none, ()) ∧ SR κ a₀ lo st') (Q := fun c st' => c = (none, ()) ∧ SR κ a₀ lo st') ?_ (fun c st' hh => hh) ⟨rfl, hR⟩) ?_)
    · rintro x c st4 _ _ ⟨rfl, hR4⟩
      refine wpS_bind (wpS_get ?_)
      by_cases hs : (pendingOf st4).size ≤ 1
      · rw [if_pos hs]; exact wpS_pure ⟨rfl, hR4⟩
      rw [if_neg hs]
      refine wpS_bind (wpS_mergeAt hC hR4 ?_ fun st5 hR5 => ?_)
      · exact Nat.lt_of_le_of_lt (Nat.succ_le_succ ite_pred_le) (show (pendingOf st4).size - 2 + 1 < (pendingOf st4).size by omega)
      · simp only [Bool.not_true, Bool.false_eq_true, if_false]
        exact wpS_pure ⟨rfl, hR5⟩
    · rintro c st4 ⟨rfl, pd, hq, _⟩
      exact wpS_pure (h _ hq.perm hq.failed)
end
end PyProof.Rows
namespace L2
open PySem PySem.Spec PyProof.Rows PySem.W
def PairsV (h : Heap) (vs : List Value) : Prop := ∀ v ∈ vs, ∃ a o n x t y u, v = Value.ref a ∧ h.get? a = some o ∧ o.cls = .type "tuple" ∧ o.data = .seq #[.int x t, .int y u] n
theorem PairsV.tups {h : Heap} : ∀ {vs : List Value}, PairsV h vs → ∃ fs, KatTups h vs fs ∧ fs.length = vs.length ∧ ∀ v ∈ fs, ∃ n t, v = Value.int n t
  | [], _ => ⟨[], trivial, rfl, fun v hv => nomatch hv⟩
  | v :: vs, hp => by
    obtain ⟨fs, k1, k2, k3⟩ := PairsV.tups (vs := vs) fun b hb => hp b (List.mem_cons_of_mem _ hb)
    obtain ⟨a, o, n, x, t, y, u, rfl, e, c, d⟩ := hp v List.mem_cons_self
    refine ⟨.int x t :: fs, KatTups.cons e c d rfl k1, by simp [k2], fun v hv => ?_⟩
    rcases List.mem_cons.mp hv with z | z
    · exact ⟨x, t, z⟩
    · exact k3 v z
section
variable {prog : Program} {w : World} {A : Around} {E : Value → Shared → Prop} {s : Shared}
theorem cmp_pairs {vs : List Value} (hp : PairsV s.heap vs) : Cmp prog w A s (tuples' true) (vs.toArray.zip vs.toArray) := by
  have mem : ∀ x ∈ (vs.toArray.zip vs.toArray).toList, x.1 ∈ vs := by
    intro x hx
    rw [Array.toList_zip] at hx
    exact (List.of_mem_zip hx).1
  intro x y hx hy Q E' q
  obtain ⟨a, o, n, x1, t1, x2, t2, e1, eo, _, ed⟩ := hp x.1 (mem x hx)
  obtain ⟨b, o', n', y1, u1, y2, u2, e2, eo', _, ed'⟩ := hp y.1 (mem y hy)
  rw [e1, e2]
  refine kat_lt eo ed eo' ed' (kat_cons (wpAny_eqBool_int ?_))
  by_cases h1 : x1 = y1
  · rw [beq_iff_eq.mpr h1]
    refine kat_yes (kat_cons (wpAny_eqBool_int ?_))
    by_cases h2 : x2 = y2
    · rw [beq_iff_eq.mpr h2]
      exact kat_yes (kat_nil (q _))
    · rw [beq_eq_false_iff_ne.mpr h2]
      exact kat_no (kat_one _ _ (lt_int (q _)))
  · rw [beq_eq_false_iff_ne.mpr h1]
    exact kat_no (oneLt_int (q _))
theorem zip_snd {vs : List Value} : ((vs.toArray.zip vs.toArray).map (·.2)).toList = vs := by
  rw [Array.toList_map, Array.toList_zip]
  show (vs.zip vs).map (·.2) = vs
  rw [← List.unzip_snd, List.unzip_zip_right (Nat.le_refl _)]
theorem list_sort_pairs {a : Addr} {vs : List Value} {n : Nat} {P : PySem.Fin → Shared → Prop} (ho : s.heap.get? a = some (seqObj "list" vs.toArray n)) (hp : PairsV s.heap vs) (hz : vs.length ≤ 4096)
    (h : ∀ (out : Array Value), out.toList.Perm vs → P (.done (.ret .none)) { s with heap := sortedHeap s.heap a vs out }) :
    wpAny (model prog w) A (Builtin.«list.sort» ⟨[.ref a], []⟩) P E s := by
  rw [list_sort_plain]
  have ha : a < s.heap.objs.size := Heap.lt_size ho
  have hsl : vs.toArray.size ≤ sizeLine := by rw [List.size_toArray, sizeLine_eq]; omega
  refine wpAny_bind (listItems_at ho rfl ?_)
  refine wpAny_bind (listUpdate_at ho rfl ?_ hsl (Nat.zero_le _))
  obtain ⟨e1, ho1⟩ : ∃ e1, (s.heap.update a (Obj.mapSeq fun _ => #[])).get? a = some (seqObj "list" #[] e1) := ⟨_, get?_update_seq ho (fun _ => #[])⟩
  refine wpAny_bind (seqEpoch_at ho1 rfl ?_)
  refine wpAny_bind (wpAny_newTuple ?_ (by show vs.length ≤ _; rw [sizeLine_eq]; omega))
  refine wpAny_bind (wpAny_newList ?_ (Nat.zero_le _))
  refine wpAny_holding ?_
  have ho6 : (((s.heap.update a (Obj.mapSeq fun _ => #[])).push (seqObj "tuple" vs.toArray 0)).push (seqObj "list" #[] 0)).get? a = some (seqObj "list" #[] e1) := by
    rw [Heap.get?_push_ne _ _ _ (by rw [size_push', Heap.size_update]; exact Nat.ne_of_lt (Nat.lt_succ_of_lt ha)), Heap.get?_push_ne _ _ _ (by rw [Heap.size_update]; exact Nat.ne_of_lt ha)]
    exact ho1
  have hp6 : PairsV (((s.heap.update a (Obj.mapSeq fun _ => #[])).push (seqObj "tuple" vs.toArray 0)).push (seqObj "list" #[] 0)) vs := by
    intro v hv
    obtain ⟨b, o, n, x, t, y, u, ev, e, c, d⟩ := hp v hv
    have hb : b < s.heap.objs.size := Heap.lt_size e
    have hne : b ≠ a := by
      rintro rfl
      rw [ho] at e; cases e
      exact absurd (Value.type.inj c) (by decide)
    refine ⟨b, o, n, x, t, y, u, ev, ?_, c, d⟩
    rw [Heap.get?_push_ne _ _ _ (by rw [size_push', Heap.size_update]; exact Nat.ne_of_lt (Nat.lt_succ_of_lt hb)), Heap.get?_push_ne _ _ _ (by rw [Heap.size_update]; exact Nat.ne_of_lt hb), Heap.get?_update_ne _ _ _ _ hne]
    exact e
  show wpAny (model prog w) A _ P E { s with heap := ((s.heap.update a (Obj.mapSeq fun _ => #[])).push (seqObj "tuple" vs.toArray 0)).push (seqObj "list" #[] 0) }
  dsimp only
  have fin : ∀ st' : SortSt, (arrOf st').Perm (vs.toArray.zip vs.toArray) → P (.done (.ret .none)) { s with heap := sortedHeap s.heap a vs ((arrOf st').map (·.2)) } := by
    intro st' hpm
    refine h _ ?_
    have := (Array.perm_iff_toList_perm.mp hpm).map (·.2)
    rw [← Array.toList_map, ← Array.toList_map, zip_snd] at this
    exact this
  have zsz : (vs.toArray.zip vs.toArray).size = vs.length := by simp
  by_cases h2 : vs.toArray.size < 2
  · rw [if_pos h2, if_pos h2]
    refine wpAny_bind (wpAny_pure ?_)
    rw [StateT.run_pure]
    refine wpAny_bind (wpAny_pure ?_)
    dsimp only
    refine wpAny_bind (seqEpoch_at ho6 rfl ?_)
    refine wpAny_bind (listUpdate_at ho6 rfl ?_ (Nat.zero_le _) (by show ((vs.toArray.zip vs.toArray).map (·.2)).size ≤ _; rw [Array.size_map, zsz, sizeLine_eq]; omega))
    simp only [bne_self_eq_false, Bool.false_eq_true, if_false]
    exact wpAny_pure (fin (SortSt.mk' general' (vs.toArray.zip vs.toArray) #[] 7 none) (Array.Perm.refl _))
  · rw [if_neg h2, if_neg h2]
    have hlen : 2 ≤ vs.length := by rw [List.size_toArray] at h2; omega
    obtain ⟨fs, k1, k2, k3⟩ := hp6.tups
    refine wpAny_bind (kat_kind (T := .type "int") k1 (by omega) (fun v hv => ?_) rfl ?_)
    · obtain ⟨m, t, rfl⟩ := k3 v hv
      exact .now
    refine wpAny_bind (wpAny_mono (wpS_sorts (a₀ := vs.toArray.zip vs.toArray) (κ := tuples' true) (st := SortSt.mk' (tuples' true) (vs.toArray.zip vs.toArray) #[] 7 none)
      (Q := fun _ st' => (arrOf st').Perm (vs.toArray.zip vs.toArray) ∧ failedOf st' = none) (cmp_pairs hp6) (Array.Perm.refl _) rfl rfl rfl fun st' b1 b2 => ⟨b1, b2⟩) ?_ fun _ _ e => e)
    rintro ⟨⟨⟩, st'⟩ s' ⟨rfl, hpm, hf⟩
    dsimp only
    refine wpAny_bind (seqEpoch_at ho6 rfl ?_)
    refine wpAny_bind (listUpdate_at ho6 rfl ?_ (Nat.zero_le _) (by refine Nat.le_trans (Nat.le_of_eq ((Array.size_map ..).trans (hpm.size_eq.trans zsz))) ?_; rw [sizeLine_eq]; omega))
    rw [hf]
    simp only [bne_self_eq_false, Bool.false_eq_true, if_false]
    exact wpAny_pure (fin st' hpm)
theorem sorted_pairs {l : Addr} {vs : List Value} {Q : Value → Shared → Prop} (hl : s.heap.IsList l vs.toArray) (hp : PairsV s.heap vs) (hz : vs.length ≤ 4096)
    (h : ∀ (out : Array Value), out.toList.Perm vs → Q (.ref (s.heap.objs.size + 1)) { s with heap := sortedAll s.heap vs out }) :
    wpAny (model prog w) A (call (.builtin "sorted") [.ref l]) Q E s := by
  have hsl : vs.length ≤ sizeLine := by rw [sizeLine_eq]; omega
  refine Calls.call_function_entry kind_sorted plain_sorted entry_sorted (args_sorted1 _) ?_
  unfold Builtin.«sorted»
  refine wpAny_bind (m := checkCount "sorted" 1 1 _) (wpAny_pure ?_)
  refine wpAny_bind (collect_list hl ?_ hsl)
  refine wpAny_bind (wpAny_newList ?_ hsl)
  have hsz : ((s.heap.push (seqObj "list" #[] 0)).update s.heap.objs.size (Obj.mapSeq (· ++ vs.toArray))).objs.size = s.heap.objs.size + 1 := by
    rw [Heap.size_update, size_push']
  have hoL : (((s.heap.push (seqObj "list" #[] 0)).update s.heap.objs.size (Obj.mapSeq (· ++ vs.toArray))).push (seqObj "list" vs.toArray 0)).get? (s.heap.objs.size + 1) = some (seqObj "list" vs.toArray 0) := by
    rw [← hsz]; exact Heap.get?_push_size _ rfl
  have hp2 : PairsV (((s.heap.push (seqObj "list" #[] 0)).update s.heap.objs.size (Obj.mapSeq (· ++ vs.toArray))).push (seqObj "list" vs.toArray 0)) vs := by
    intro v hv
    obtain ⟨b, o, n, x, t, y, u, ev, e, c, d⟩ := hp v hv
    have hb : b < s.heap.objs.size := Heap.lt_size e
    refine ⟨b, o, n, x, t, y, u, ev, ?_, c, d⟩
    rw [Heap.get?_push_ne _ _ _ (by rw [hsz]; exact Nat.ne_of_lt (Nat.lt_succ_of_lt hb)), Heap.get?_update_ne _ _ _ _ (Nat.ne_of_lt hb), Heap.get?_push_ne _ _ _ (Nat.ne_of_lt hb)]
    exact e
  show wpAny _ _ _ _ _ { s with heap := ((s.heap.push (seqObj "list" #[] 0)).update s.heap.objs.size (Obj.mapSeq (· ++ vs.toArray))).push (seqObj "list" vs.toArray 0) }
  rw [hsz]
  refine wpAny_bind (wpAny_holding (wpAny_call_entry slot_list_sort ⟨_, hoL, rfl⟩ entry_list_sort (list_sort_pairs hoL hp2 hz fun out a1 => ⟨_, rfl, ?_⟩) (args_list_sort _)))
  exact wpAny_pure ⟨_, rfl, h out a1⟩
end
theorem refs_of' : ∀ {as : List Addr} {its : List Value}, Vals (as.map V.ref) its → its = as.map Value.ref
  | [], _, r => by cases r; rfl
  | a :: as, _, r => by
    cases r with
    | cons r rr =>
      obtain rfl := (show _ = Value.ref a from r)
      rw [refs_of' rr]; rfl
theorem vals_refs : ∀ {as : List Addr}, Vals (as.map V.ref) (as.map Value.ref)
  | [] => .nil
  | _ :: _ => .cons rfl vals_refs
theorem perm_refs {as : List Addr} {vs : List Value} (h : vs.Perm (as.map Value.ref)) : ∃ as' : List Addr, vs = as'.map Value.ref ∧ as'.Perm as := by
  let un : Value → Addr := fun v => match v with | .ref a => a | _ => 0
  refine ⟨vs.map un, ?_, ?_⟩
  · rw [List.map_map]
    have : ∀ v ∈ vs, (Value.ref ∘ un) v = v := by
      intro v hv
      obtain ⟨a, _, rfl⟩ := List.mem_map.mp (h.mem_iff.mp hv)
      rfl
    conv => lhs; rw [← List.map_id vs]
    exact List.map_congr_left fun v hv => (this v hv).symm
  · have := h.map un
    rw [List.map_map] at this
    have e : as.map (un ∘ Value.ref) = as := by
      conv => rhs; rw [← List.map_id as]
      exact List.map_congr_left fun a _ => rfl
    rw [e] at this
    exact this
def rSortA (K : PySem.W.Frag) : List V → Hp → VK → Prop := fun xs H Q => ∃ (l : Addr) (as : List Addr), xs = [.ref l] ∧ SqL K H l (as.map V.ref) ∧ (∀ a ∈ as, ∃ x y : Int, SqT K H a [.int x, .int y]) ∧ as.length ≤ 4096 ∧
  ∀ (D : Addr) (as' : List Addr), H D = none → as'.Perm as → Q (.ref D) (upd H D (.lst (as'.map V.ref)))
theorem call_sortA {X : Cx} : CallR X (.builtin "sorted") (rSortA X.K) := by
  intro pins s σ H xs us Q I r h
  obtain ⟨l, as, rfl, hl, hp, hz, q⟩ := h
  obtain ⟨u1, rfl, r1⟩ := r.one
  obtain rfl : u1 = Value.ref l := r1
  obtain ⟨its, rv, pl, _⟩ := I.list hl
  have hits := refs_of' rv
  subst hits
  have hpv : PairsV s.heap (as.map Value.ref) := by
    intro v hv
    obtain ⟨a, ha, rfl⟩ := List.mem_map.mp hv
    obtain ⟨x, y, hxy⟩ := hp a ha
    obtain ⟨its, r, ⟨o, e, c, n, d⟩, _⟩ := I.tuple hxy
    obtain ⟨u1, u2, rfl, r1, r2⟩ := r.two
    obtain ⟨t, rfl⟩ := r1
    obtain ⟨t', rfl⟩ := r2
    exact ⟨a, o, n, x, t, y, t', rfl, e, c, d⟩
  refine sorted_pairs pl.isList hpv (by rw [List.length_map]; exact hz) fun out hperm => ?_
  obtain ⟨as', eo, pa⟩ := perm_refs hperm
  have hout : out = (as'.map Value.ref).toArray := by rw [← eo]
  subst hout
  have sz1 : ((s.heap.push (seqObj "list" #[] 0)).update s.heap.objs.size (Obj.mapSeq (· ++ (as.map Value.ref).toArray))).objs.size = s.heap.objs.size + 1 := by rw [Heap.size_update, size_push']
  have k1 : ∀ b u, s.heap.get? b = some u → (((s.heap.push (seqObj "list" #[] 0)).update s.heap.objs.size (Obj.mapSeq (· ++ (as.map Value.ref).toArray))).push (seqObj "list" (as.map Value.ref).toArray 0)).get? b = some u := fun b u e => by
    have hb : b < s.heap.objs.size := Heap.lt_size e
    rw [Heap.get?_push_ne _ _ _ (by rw [sz1]; exact Nat.ne_of_lt (Nat.lt_succ_of_lt hb)), Heap.get?_update_ne _ _ _ _ (Nat.ne_of_lt hb), Heap.get?_push_ne _ _ _ (Nat.ne_of_lt hb)]
    exact e
  have hoL : (((s.heap.push (seqObj "list" #[] 0)).update s.heap.objs.size (Obj.mapSeq (· ++ (as.map Value.ref).toArray))).push (seqObj "list" (as.map Value.ref).toArray 0)).get? (s.heap.objs.size + 1) = some (seqObj "list" (as.map Value.ref).toArray 0) := by
    rw [← sz1]; exact Heap.get?_push_size _ rfl
  have sz2 : (((s.heap.push (seqObj "list" #[] 0)).update s.heap.objs.size (Obj.mapSeq (· ++ (as.map Value.ref).toArray))).push (seqObj "list" (as.map Value.ref).toArray 0)).objs.size = s.heap.objs.size + 2 := by rw [size_push', sz1]
  show EP X pins σ Q (.ref (s.heap.objs.size + 1)) { s with heap := sortedHeap (((s.heap.push (seqObj "list" #[] 0)).update s.heap.objs.size (Obj.mapSeq (· ++ (as.map Value.ref).toArray))).push (seqObj "list" (as.map Value.ref).toArray 0)) (s.heap.objs.size + 1) (as.map Value.ref) (as'.map Value.ref).toArray }
  revert k1 hoL sz2
  generalize ((s.heap.push (seqObj "list" #[] 0)).update s.heap.objs.size (Obj.mapSeq (· ++ (as.map Value.ref).toArray))).push (seqObj "list" (as.map Value.ref).toArray 0) = h1
  intro k1 hoL sz2
  obtain ⟨e1, ho1⟩ : ∃ e1, (h1.update (s.heap.objs.size + 1) (Obj.mapSeq fun _ => (#[] : Array Value))).get? (s.heap.objs.size + 1) = some (seqObj "list" #[] e1) := ⟨_, get?_update_seq hoL (fun _ => #[])⟩
  have ho6 : (((h1.update (s.heap.objs.size + 1) (Obj.mapSeq fun _ => (#[] : Array Value))).push (seqObj "tuple" (as.map Value.ref).toArray 0)).push (seqObj "list" #[] 0)).get? (s.heap.objs.size + 1) = some (seqObj "list" #[] e1) := by
    rw [Heap.get?_push_ne _ _ _ (by rw [size_push', Heap.size_update, sz2]; exact Nat.ne_of_lt (Nat.lt_succ_of_lt (Nat.lt_succ_self _))), Heap.get?_push_ne _ _ _ (by rw [Heap.size_update, sz2]; exact Nat.ne_of_lt (Nat.lt_succ_self _))]
    exact ho1
  obtain ⟨e2, ho7⟩ : ∃ e2, (sortedHeap h1 (s.heap.objs.size + 1) (as.map Value.ref) (as'.map Value.ref).toArray).get? (s.heap.objs.size + 1) = some (seqObj "list" (as'.map Value.ref).toArray e2) := ⟨_, get?_update_seq ho6 (fun _ => (as'.map Value.ref).toArray)⟩
  have keep : ∀ b u, s.heap.get? b = some u → (sortedHeap h1 (s.heap.objs.size + 1) (as.map Value.ref) (as'.map Value.ref).toArray).get? b = some u := fun b u e => by
    have hb : b < s.heap.objs.size := Heap.lt_size e
    unfold sortedHeap
    rw [Heap.get?_update_ne _ _ _ _ (Nat.ne_of_lt (Nat.lt_succ_of_lt hb)), Heap.get?_push_ne _ _ _ (by rw [size_push', Heap.size_update, sz2]; exact Nat.ne_of_lt (Nat.lt_succ_of_lt (Nat.lt_succ_of_lt (Nat.lt_succ_of_lt hb)))), Heap.get?_push_ne _ _ _ (by rw [Heap.size_update, sz2]; exact Nat.ne_of_lt (Nat.lt_succ_of_lt (Nat.lt_succ_of_lt hb))), Heap.get?_update_ne _ _ _ _ (Nat.ne_of_lt (Nat.lt_succ_of_lt hb))]
    exact k1 b u e
  have hnone : s.heap.get? (s.heap.objs.size + 1) = none := Heap.get?_none_of_le (by omega)
  refine ⟨.ref (s.heap.objs.size + 1), _, I.laidN (t' := s.toks) (o := .lst (as'.map V.ref)) keep hnone ⟨?_, as'.map Value.ref, e2, vals_refs, ho7⟩, rfl, q _ as' (I.hok.freshN hnone) pa⟩
  rw [List.length_map, pa.length_eq]
  exact Nat.le_trans hz (by decide)
end L2
namespace L2
open PySem PySem.Spec PyProof.Rows
section
variable {prog : Program} {w : World} {A : Around} {E : Value → Shared → Prop} {s : Shared}
end
end L2
namespace L2
open PySem PySem.Spec PyProof.Rows
section
variable {prog : Program} {w : World} {A : Around} {E : Value → Shared → Prop} {s : Shared}
end
section
variable {X : Cx}
end
end L2
namespace L2
open PySem PySem.Spec PyProof.Rows
section
variable {X : Cx}
theorem items_flat {s : Shared} {A : Around} {xs ys : List V} {us vs : List Value} (rx : Vals xs us) (ry : Vals ys vs) (fx : xs.all flatV = true) (fy : ys.all flatV = true) :
    ∀ j (h1 : j < us.toArray.size) (h2 : j < vs.toArray.size), SeqAt.EqAt A s us.toArray[j] vs.toArray[j] (eqV (xs.getD j .non) (ys.getD j .non)) := by
  intro j h1 h2
  have j1 : j < xs.length := by rw [rx.length]; simpa using h1
  have j2 : j < ys.length := by rw [ry.length]; simpa using h2
  have e1 : xs[j]? = some (xs.getD j .non) := by rw [List.getD_eq_getElem?_getD, List.getElem?_eq_getElem j1]; rfl
  have e2 : ys[j]? = some (ys.getD j .non) := by rw [List.getD_eq_getElem?_getD, List.getElem?_eq_getElem j2]; rfl
  obtain ⟨u, hu1, ru⟩ := rx.get e1
  obtain ⟨v, hv1, rv⟩ := ry.get e2
  have eu : us.toArray[j] = u := by
    have : us[j]? = some us.toArray[j] := by simp at h1 ⊢
    rw [hu1] at this; exact (Option.some.inj this).symm
  have ev : vs.toArray[j] = v := by
    have : vs[j]? = some vs.toArray[j] := by simp at h2 ⊢
    rw [hv1] at this; exact (Option.some.inj this).symm
  rw [eu, ev]
  exact eqAt_V ru rv (List.all_eq_true.mp fx _ (List.mem_of_getElem? e1)) (List.all_eq_true.mp fy _ (List.mem_of_getElem? e2))
theorem tup_eqAt {pins : List (Addr × Obj)} {σ : St} {H : Hp} {s : Shared} {A : Around} {a b : Addr} {xs ys : List V} (I : Inv X pins σ H s) (hu : A.units + 1 < cLine) (ha : SqT X.K H a xs) (hb : SqT X.K H b ys) (hl : xs.length = ys.length) (fx : xs.all flatV = true) (fy : ys.all flatV = true) :
    SeqAt.EqAt A s (.ref a) (.ref b) (allEq eqV xs ys) := by
  by_cases hab : a = b
  · subst hab
    have e1 := I.tuple_inj ha hb
    subst e1
    have e2 : allEq eqV xs xs = true := by
      clear ha hb hl fy
      induction xs with
      | nil => rfl
      | cons x xs ih =>
        rw [List.all_cons, Bool.and_eq_true] at fx
        rw [allEq, ih fx.2, Bool.and_true]
        cases x <;> first | rfl | (show (_ == _) = true; simp) | exact absurd (show false = true from fx.1) Bool.false_ne_true
    rw [e2]
    exact SeqAt.EqAt.same _
  · obtain ⟨us, r1, p1, _⟩ := I.tuple ha
    obtain ⟨vs, r2, p2, _⟩ := I.tuple hb
    have h := SeqAt.RcAt.tuples (A := A) (s := s) (l := a) (b := b) (e := fun i => eqV (xs.getD i .non) (ys.getD i .non)) (show s.heap.IsTuple a us.toArray from p1) (show s.heap.IsTuple b vs.toArray from p2) (by omega)
      (items_flat r1 r2 fx fy)
    refine SeqAt.EqAt.of_refs hab ?_
    have er : ((List.range (min us.toArray.size vs.toArray.size)).all (fun i => eqV (xs.getD i .non) (ys.getD i .non)) && us.toArray.size == vs.toArray.size) = allEq eqV xs ys := by
      rw [List.size_toArray, List.size_toArray, ← r1.length, ← r2.length, ← hl, Nat.min_self, beq_self_eq_true, Bool.and_true, allEq_range hl]
    rw [er] at h
    exact h
theorem pair_allEq {p q : Int × Int} : allEq eqV [.int p.1, .int p.2] [.int q.1, .int q.2] = decide (p = q) := by
  obtain ⟨a, b⟩ := p
  obtain ⟨c, d⟩ := q
  show ((a == c) && ((b == d) && true)) = decide ((a, b) = (c, d))
  by_cases h1 : a = c <;> by_cases h2 : b = d <;> simp [h1, h2]
def rInP (K : PySem.W.Frag) (neg : Bool) : R2 := fun x y H Q => ∃ (p l : Addr) (u : Int × Int) (as : List Addr) (ps : List (Int × Int)), x = .ref p ∧ y = .ref l ∧ SqT K H p [.int u.1, .int u.2] ∧ SqL K H l (as.map V.ref) ∧ as.length = ps.length ∧ (∀ i, i < ps.length → SqT K H (as.getD i 0) [.int (ps.getD i (0, 0)).1, .int (ps.getD i (0, 0)).2]) ∧
  Q (.bl (if neg then !decide (u ∈ ps) else decide (u ∈ ps))) H
open Classical in
theorem inP_any {pins : List (Addr × Obj)} {σ : St} {H : Hp} {s : Shared} (I : Inv X pins σ H s) {u : Int × Int} : ∀ {as : List Addr} {ps : List (Int × Int)}, as.length = ps.length → (∀ i, i < ps.length → SqT X.K H (as.getD i 0) [.int (ps.getD i (0, 0)).1, .int (ps.getD i (0, 0)).2]) →
    ((as.map Value.ref).any fun v => decide (∃ a, v = Value.ref a ∧ SqT X.K H a [.int u.1, .int u.2])) = decide (u ∈ ps)
  | [], [], _, _ => by simp
  | a :: as, p :: ps, hl, h => by
    have ih := inP_any I (u := u) (as := as) (ps := ps) (by simpa using hl) (fun i hi => h (i + 1) (by simpa using hi))
    have h0 : SqT X.K H a [.int p.1, .int p.2] := h 0 (by simp)
    rw [List.map_cons, List.any_cons, ih]
    have e : decide (∃ b, Value.ref a = Value.ref b ∧ SqT X.K H b [.int u.1, .int u.2]) = decide (u = p) := by
      rw [Bool.eq_iff_iff, decide_eq_true_iff, decide_eq_true_iff]
      constructor
      · rintro ⟨b, e, hb⟩
        cases e
        have := I.tuple_inj h0 hb
        have e1 : p.1 = u.1 := V.int.inj (List.cons.inj this).1
        have e2 : p.2 = u.2 := V.int.inj (List.cons.inj (List.cons.inj this).2).1
        exact Prod.ext e1.symm e2.symm
      · rintro rfl
        exact ⟨a, rfl, h0⟩
    rw [e]
    by_cases z : u = p
    · simp [z]
    · simp [z]
open Classical in
theorem inP_eqAt {pins : List (Addr × Obj)} {σ : St} {H : Hp} {s : Shared} {A : Around} (I : Inv X pins σ H s) (hu : A.units + 1 < cLine) {p : Addr} {u : Int × Int} (hp : SqT X.K H p [.int u.1, .int u.2]) {as : List Addr} {ps : List (Int × Int)} (hl : as.length = ps.length)
    (h : ∀ i, i < ps.length → SqT X.K H (as.getD i 0) [.int (ps.getD i (0, 0)).1, .int (ps.getD i (0, 0)).2]) : ∀ v ∈ as.map Value.ref, SeqAt.EqAt A s v (.ref p) (decide (∃ a, v = Value.ref a ∧ SqT X.K H a [.int u.1, .int u.2])) := by
  intro v hv
  obtain ⟨a, ha, rfl⟩ := List.mem_map.mp hv
  obtain ⟨i, hi, e⟩ := List.mem_iff_getElem.mp ha
  have hq := h i (by omega)
  have ea : as.getD i 0 = a := by rw [List.getD_eq_getElem?_getD, List.getElem?_eq_getElem hi]; exact e
  rw [ea] at hq
  have z := tup_eqAt (A := A) I hu hq hp rfl rfl rfl
  rw [pair_allEq] at z
  have e : decide (∃ b, Value.ref a = Value.ref b ∧ SqT X.K H b [.int u.1, .int u.2]) = decide (ps.getD i (0, 0) = u) := by
    rw [Bool.eq_iff_iff, decide_eq_true_iff, decide_eq_true_iff]
    constructor
    · rintro ⟨b, e, hb⟩
      cases e
      have := I.tuple_inj hq hb
      exact Prod.ext (V.int.inj (List.cons.inj this).1) (V.int.inj (List.cons.inj (List.cons.inj this).2).1)
    · intro e
      rw [← e]
      exact ⟨a, rfl, hq⟩
  rw [e]
  exact z
open Classical in
theorem op_inP (hu : X.A.units + 2 < cLine) : OpR X (compareOp .In) (rInP X.K false) := by
  intro pins s σ H x y v u Q I rx ry h
  obtain ⟨p, l, w, as, ps, rfl, rfl, hp, hl, hlen, hps, q⟩ := h
  obtain rfl : v = Value.ref p := rx
  obtain rfl : u = Value.ref l := ry
  obtain ⟨its, r, pl, _⟩ := I.list hl
  have e := refs_of' r
  subst e
  refine SeqAt.in_listAt (fun v => decide (∃ a, v = Value.ref a ∧ SqT X.K H a [.int w.1, .int w.2])) pl.isList (fun y hy => inP_eqAt I (by show X.A.units + 1 + 1 < cLine; omega) hp hlen hps y (by simpa using hy)) ⟨.bl _, H, I, rfl, ?_⟩
  rw [show (as.map Value.ref).toArray.any (fun v => decide (∃ a, v = Value.ref a ∧ SqT X.K H a [.int w.1, .int w.2])) = (as.map Value.ref).any (fun v => decide (∃ a, v = Value.ref a ∧ SqT X.K H a [.int w.1, .int w.2])) by simp, inP_any I hlen hps]
  exact q
end
end L2
namespace L2
open PySem PySem.Spec PyProof.Rows PySem.W
end L2
namespace NetM
abbrev Ts := List (Int × Int)
def T (ts : Ts) (a b : Nat) : Prop := (((a : Nat) : Int), ((b : Nat) : Int)) ∈ ts
instance (ts : Ts) (a b : Nat) : Decidable (T ts a b) := inferInstanceAs (Decidable (_ ∈ _))
def Walk (ts : Ts) : Nat → Nat → Nat → Prop
  | 0, a, b => a = b
  | k + 1, a, b => ∃ c, Walk ts k a c ∧ T ts c b
theorem Walk.trans {ts : Ts} {k : Nat} {a b : Nat} (h : Walk ts k a b) : ∀ {l : Nat} {c : Nat}, Walk ts l b c → Walk ts (k + l) a c
  | 0, _, e => by cases e; exact h
  | l + 1, _, ⟨d, w, t⟩ => ⟨d, h.trans w, t⟩
theorem Walk.one {ts : Ts} {a b : Nat} (h : T ts a b) : Walk ts 1 a b := ⟨a, rfl, h⟩
theorem Walk.cons {ts : Ts} {k a b c : Nat} (h : T ts a b) (w : Walk ts k b c) : Walk ts (k + 1) a c := by
  have := (Walk.one h).trans w
  rwa [Nat.add_comm] at this
def IsFar (ts : Ts) (a b d : Nat) : Prop := Walk ts d a b ∧ ∀ k, Walk ts k a b → d ≤ k
theorem IsFar.uniq {ts : Ts} {a b d e : Nat} (h : IsFar ts a b d) (g : IsFar ts a b e) : d = e := Nat.le_antisymm (h.2 _ g.1) (g.2 _ h.1)
theorem far_ex {ts : Ts} {a b : Nat} : ∀ k, Walk ts k a b → ∃ d, IsFar ts a b d := by
  intro k
  induction k using Nat.strongRecOn with
  | ind k ih =>
    intro w
    by_cases h : ∃ j, j < k ∧ Walk ts j a b
    · obtain ⟨j, hj, wj⟩ := h
      exact ih j hj wj
    · exact ⟨k, w, fun j wj => Classical.byContradiction fun z => h ⟨j, by omega, wj⟩⟩
open Classical in
noncomputable def far (ts : Ts) (a b : Nat) : Nat := if h : ∃ d, IsFar ts a b d then h.choose else 0
theorem far_of {ts : Ts} {a b d : Nat} (h : IsFar ts a b d) : far ts a b = d := by
  unfold far
  have hx : ∃ d, IsFar ts a b d := ⟨d, h⟩
  rw [dif_pos hx]
  exact hx.choose_spec.uniq h
theorem far_is {ts : Ts} {a b k : Nat} (w : Walk ts k a b) : IsFar ts a b (far ts a b) := by
  obtain ⟨d, h⟩ := far_ex k w
  rw [far_of h]; exact h
theorem far_self {ts : Ts} {a : Nat} : far ts a a = 0 := far_of ⟨rfl, fun k _ => Nat.zero_le _⟩
structure Fine (n : Nat) (ts : Ts) : Prop where
  n1 : 2 ≤ n
  n2 : n ≤ 32
  nd : ts.Nodup
  rg : ∀ t ∈ ts, (0 ≤ t.1 ∧ t.1 < n) ∧ (0 ≤ t.2 ∧ t.2 < n)
  ne : ∀ t ∈ ts, t.1 ≠ t.2
  bal : ∀ h : Int, (ts.filter fun t => decide (t.1 = h)).length = (ts.filter fun t => decide (t.2 = h)).length
  most : ∀ h : Int, (ts.filter fun t => decide (t.1 = h)).length ≤ 8
  con : ∀ a b, a < n → b < n → ∃ k, Walk ts k a b
theorem parts_len {α : Type} (f : α → Int) : ∀ (l : List α) (n : Nat), (∀ x ∈ l, 0 ≤ f x ∧ f x < n) → (∀ h : Int, (l.filter fun t => decide (f t = h)).length ≤ 8) → l.length ≤ 8 * n := by
  intro l n
  induction n generalizing l with
  | zero =>
    intro h _
    cases l with
    | nil => simp
    | cons x xs => have := h x List.mem_cons_self; omega
  | succ n ih =>
    intro h h8
    have e : l.length = (l.filter fun t => decide (f t = (n : Int))).length + (l.filter fun t => !decide (f t = (n : Int))).length := by
      induction l with
      | nil => rfl
      | cons x xs ih2 =>
        have := ih2 (fun y hy => h y (List.mem_cons_of_mem _ hy)) (fun hh => Nat.le_trans (by rw [List.filter_cons]; split <;> simp) (h8 hh))
        by_cases q : f x = (n : Int) <;> simp [List.filter_cons, q] <;> omega
    have i2 := ih (l.filter fun t => !decide (f t = (n : Int))) (fun x hx => by
      have a := h x (List.mem_filter.mp hx |>.1)
      have b := (List.mem_filter.mp hx).2
      simp at b
      omega) (fun hh => by
      refine Nat.le_trans ?_ (h8 hh)
      exact (List.filter_sublist.filter _).length_le)
    have := h8 (n : Int)
    omega
theorem Fine.len {n : Nat} {ts : Ts} (F : Fine n ts) : ts.length ≤ 256 := by
  have := parts_len (·.1) ts n (fun t ht => (F.rg t ht).1) F.most
  have := F.n2
  omega
theorem Fine.tlt {n : Nat} {ts : Ts} (F : Fine n ts) {a b : Nat} (h : T ts a b) : a < n ∧ b < n ∧ a ≠ b := by
  have q := F.rg _ h
  have q2 := F.ne _ h
  refine ⟨by have := q.1; simp at this; omega, by have := q.2; simp at this; omega, fun e => q2 (by rw [e])⟩
theorem Fine.fars {n : Nat} {ts : Ts} (F : Fine n ts) {a b : Nat} (ha : a < n) (hb : b < n) : IsFar ts a b (far ts a b) :=
  let ⟨_, w⟩ := F.con a b ha hb; far_is w
def outN (n : Nat) (ts : Ts) (h : Nat) : List Nat := ((List.range n).map fun s => (h + s) % n).filter fun o => decide (T ts h o)
theorem outN_mem {n : Nat} {ts : Ts} (F : Fine n ts) {h o : Nat} (hh : h < n) : o ∈ outN n ts h ↔ T ts h o := by
  unfold outN
  rw [List.mem_filter, decide_eq_true_eq]
  refine ⟨fun z => z.2, fun z => ⟨?_, z⟩⟩
  obtain ⟨_, h2, _⟩ := F.tlt z
  refine List.mem_map.mpr ⟨if h ≤ o then o - h else o + n - h, List.mem_range.mpr (by split <;> omega), ?_⟩
  split
  · rw [show h + (o - h) = o by omega, Nat.mod_eq_of_lt h2]
  · rw [show h + (o + n - h) = o + n by omega, Nat.add_mod_right, Nat.mod_eq_of_lt h2]
theorem outN_lt {n : Nat} {ts : Ts} (F : Fine n ts) {h o : Nat} (hh : h < n) (ho : o ∈ outN n ts h) : o < n := (F.tlt ((outN_mem F hh).mp ho)).2.1
def key (n h o : Nat) : Int := ((o : Int) - (h : Int)) % (n : Int)
theorem key_of {n h s : Nat} (hh : h < n) (hs : s < n) : key n h ((h + s) % n) = (s : Int) := by
  unfold key
  by_cases c : h + s < n
  · rw [Nat.mod_eq_of_lt c, show (((h + s : Nat) : Int) - (h : Int)) = (s : Int) by omega]
    exact Int.emod_eq_of_lt (by omega) (by omega)
  · have e : (h + s) % n = h + s - n := by
      rw [Nat.mod_eq_sub_mod (by omega), Nat.mod_eq_of_lt (by omega)]
    rw [e, show ((((h + s - n : Nat)) : Int) - (h : Int)) = (s : Int) - (n : Int) by omega, Int.sub_emod_right]
    exact Int.emod_eq_of_lt (by omega) (by omega)
theorem outN_sorted {n : Nat} {ts : Ts} {h : Nat} (hh : h < n) : (outN n ts h).Pairwise fun a b => key n h a < key n h b := by
  unfold outN
  refine List.Pairwise.filter _ ?_
  refine List.pairwise_map.mpr ?_
  refine List.Pairwise.imp_of_mem ?_ (List.pairwise_lt_range (n := n))
  intro a b ha hb hab
  rw [key_of hh (List.mem_range.mp ha), key_of hh (List.mem_range.mp hb)]
  omega
theorem sorted_uniq {α : Type} {k : α → Int} : ∀ {a b : List α}, a.Pairwise (fun x y => k x < k y) → b.Pairwise (fun x y => k x < k y) → (∀ x, x ∈ a ↔ x ∈ b) → a = b
  | [], [], _, _, _ => rfl
  | [], y :: ys, _, _, h => absurd ((h y).mpr List.mem_cons_self) (by simp)
  | x :: xs, [], _, _, h => absurd ((h x).mp List.mem_cons_self) (by simp)
  | x :: xs, y :: ys, ha, hb, h => by
    obtain ⟨a1, a2⟩ := List.pairwise_cons.mp ha
    obtain ⟨b1, b2⟩ := List.pairwise_cons.mp hb
    have e : x = y := by
      rcases List.mem_cons.mp ((h x).mp List.mem_cons_self) with z | z
      · exact z
      · rcases List.mem_cons.mp ((h y).mpr List.mem_cons_self) with z' | z'
        · exact z'.symm
        · have q1 := b1 x z
          have q2 := a1 y z'
          omega
    subst e
    refine congrArg (x :: ·) (sorted_uniq a2 b2 fun z => ⟨fun hz => ?_, fun hz => ?_⟩)
    · rcases List.mem_cons.mp ((h z).mp (List.mem_cons_of_mem _ hz)) with q | q
      · subst q; exact absurd (a1 _ hz) (by omega)
      · exact q
    · rcases List.mem_cons.mp ((h z).mpr (List.mem_cons_of_mem _ hz)) with q | q
      · subst q; exact absurd (b1 _ hz) (by omega)
      · exact q
structure Bfs (n : Nat) (ts : Ts) (s i : Nat) (R : List Nat) (f : Nat → Nat) : Prop where
  nd : R.Nodup
  lt : ∀ x ∈ R, x < n
  st : s ∈ R
  z : f s = 0
  wk : ∀ x ∈ R, Walk ts (f x) s x
  up : R.Pairwise fun a b => f a ≤ f b
  bd : ∀ u, R[i]? = some u → ∀ x ∈ R, f x ≤ f u + 1
  cl : ∀ j u, j < i → R[j]? = some u → ∀ v, T ts u v → v ∈ R ∧ f v ≤ f u + 1
theorem Bfs.start {n : Nat} {ts : Ts} {s : Nat} (hs : s < n) : Bfs n ts s 0 [s] (fun _ => 0) :=
  ⟨by simp, fun x hx => by simp at hx; omega, by simp, rfl, fun x hx => by simp at hx; subst hx; rfl, by simp, fun u _ x _ => by omega, fun j u h => absurd h (by omega)⟩
def put (f : Nat → Nat) (v k : Nat) : Nat → Nat := fun y => if y = v then k else f y
theorem put_same {f : Nat → Nat} {v k : Nat} : put f v k v = k := by simp [put]
theorem put_ne {f : Nat → Nat} {v k x : Nat} (h : x ≠ v) : put f v k x = f x := by simp [put, h]
theorem Bfs.add {n : Nat} {ts : Ts} {s i u v : Nat} {R : List Nat} {f : Nat → Nat} (B : Bfs n ts s i R f) (hu : R[i]? = some u) (hv : v < n) (t : T ts u v) (hn : v ∉ R) : Bfs n ts s i (R ++ [v]) (put f v (f u + 1)) := by
  have hur : u ∈ R := List.mem_of_getElem? hu
  have nv : ∀ x ∈ R, x ≠ v := fun x hx e => hn (e ▸ hx)
  have hi : i < R.length := (List.getElem?_eq_some_iff.mp hu).1
  refine ⟨?_, fun x hx => ?_, List.mem_append_left _ B.st, by rw [put_ne (nv s B.st)]; exact B.z, fun x hx => ?_, ?_, fun w hw x hx => ?_, fun j w hj hw x hx => ?_⟩
  · rw [List.nodup_append]
    exact ⟨B.nd, by simp, fun a ha b hb e => by simp at hb; subst hb; exact hn (e ▸ ha)⟩
  · rcases List.mem_append.mp hx with z | z
    · exact B.lt x z
    · simp at z; omega
  · rcases List.mem_append.mp hx with z | z
    · rw [put_ne (nv x z)]; exact B.wk x z
    · simp at z; subst z
      rw [put_same]
      exact ⟨u, B.wk u hur, t⟩
  · rw [List.pairwise_append]
    refine ⟨B.up.imp_of_mem fun {a b} ha hb h => by rw [put_ne (nv a ha), put_ne (nv b hb)]; exact h, by simp, fun a ha b hb => ?_⟩
    simp at hb; subst hb
    rw [put_ne (nv a ha), put_same]
    exact B.bd u hu a ha
  · have hw' : w = u := by
      rw [List.getElem?_append_left hi, hu] at hw
      exact (Option.some.inj hw).symm
    subst hw'
    rw [put_ne (nv w hur)]
    rcases List.mem_append.mp hx with z | z
    · rw [put_ne (nv x z)]; exact B.bd w hu x z
    · simp at z; subst z; rw [put_same]; exact Nat.le_refl _
  · rw [List.getElem?_append_left (by omega)] at hw
    obtain ⟨a, b⟩ := B.cl j w hj hw x hx
    refine ⟨List.mem_append_left _ a, ?_⟩
    rw [put_ne (nv x a), put_ne (nv w (List.mem_of_getElem? hw))]
    exact b
theorem Bfs.next {n : Nat} {ts : Ts} {s i u : Nat} {R : List Nat} {f : Nat → Nat} (B : Bfs n ts s i R f) (hu : R[i]? = some u) (h : ∀ v, T ts u v → v ∈ R ∧ f v ≤ f u + 1) : Bfs n ts s (i + 1) R f := by
  refine ⟨B.nd, B.lt, B.st, B.z, B.wk, B.up, fun w hw x hx => ?_, fun j w hj hw v hv => ?_⟩
  · have h1 := B.bd u hu x hx
    have h2 : f u ≤ f w := by
      have hi : i < R.length := (List.getElem?_eq_some_iff.mp hu).1
      have hi' : i + 1 < R.length := (List.getElem?_eq_some_iff.mp hw).1
      have := List.pairwise_iff_getElem.mp B.up i (i + 1) hi hi' (by omega)
      rw [List.getElem?_eq_getElem hi] at hu
      rw [List.getElem?_eq_getElem hi'] at hw
      rw [Option.some.inj hu, Option.some.inj hw] at this
      exact this
    omega
  · by_cases e : j = i
    · subst e
      rw [hu] at hw
      cases hw
      exact h v hv
    · exact B.cl j w (by omega) hw v hv
theorem nodup_lt_len : ∀ {n : Nat} {R : List Nat}, R.Nodup → (∀ x ∈ R, x < n) → R.length ≤ n := by
  intro n R hn hl
  have key : ∀ (a b : List Nat), a.Nodup → (∀ x ∈ a, x ∈ b) → a.length ≤ b.length := by
    intro a
    induction a with
    | nil => intro b _ _; exact Nat.zero_le _
    | cons x xs ih =>
      intro b hn hs
      obtain ⟨h1, h2⟩ := List.nodup_cons.mp hn
      have hx : x ∈ b := hs x List.mem_cons_self
      have := ih (b.erase x) h2 fun y hy => (List.mem_erase_of_ne (fun (e : y = x) => h1 (e ▸ hy))).mpr (hs y (List.mem_cons_of_mem _ hy))
      rw [List.length_erase_of_mem hx] at this
      have : 0 < b.length := List.length_pos_of_mem hx
      rw [List.length_cons]
      omega
  have := key R (List.range n) hn fun x hx => List.mem_range.mpr (hl x hx)
  rwa [List.length_range] at this
theorem Bfs.done {n : Nat} {ts : Ts} {s i : Nat} {R : List Nat} {f : Nat → Nat} (B : Bfs n ts s i R f) (F : Fine n ts) (hi : R.length ≤ i) {x : Nat} (hx : x < n) : x ∈ R ∧ f x = far ts s x := by
  have cl : ∀ u ∈ R, ∀ v, T ts u v → v ∈ R ∧ f v ≤ f u + 1 := fun u hu v hv => by
    obtain ⟨j, hj, e⟩ := List.mem_iff_getElem.mp hu
    exact B.cl j u (by omega) (by rw [List.getElem?_eq_getElem hj, e]) v hv
  have walk : ∀ k x, Walk ts k s x → x ∈ R ∧ f x ≤ k := by
    intro k
    induction k with
    | zero => intro x e; cases e; exact ⟨B.st, by rw [B.z]; exact Nat.le_refl _⟩
    | succ k ih =>
      rintro x ⟨c, w, t⟩
      obtain ⟨c1, c2⟩ := ih c w
      obtain ⟨d1, d2⟩ := cl c c1 x t
      exact ⟨d1, by omega⟩
  obtain ⟨k, w⟩ := F.con s x (B.lt s B.st) hx
  obtain ⟨m, _⟩ := walk k x w
  exact ⟨m, (far_of ⟨B.wk x m, fun k w => (walk k x w).2⟩).symm⟩
end NetM
namespace NetM
theorem Walk.mono {ts ts' : Ts} (h : ∀ t ∈ ts, t ∈ ts') : ∀ {k a b : Nat}, Walk ts k a b → Walk ts' k a b
  | 0, _, _, e => e
  | _ + 1, _, _, ⟨c, w, t⟩ => ⟨c, w.mono h, h _ t⟩
structure Pre (n : Nat) (ts : Ts) : Prop where
  nd : ts.Nodup
  rg : ∀ t ∈ ts, (0 ≤ t.1 ∧ t.1 < n) ∧ (0 ≤ t.2 ∧ t.2 < n)
  ne : ∀ t ∈ ts, t.1 ≠ t.2
  bal : ∀ h : Int, (ts.filter fun t => decide (t.1 = h)).length = (ts.filter fun t => decide (t.2 = h)).length
  most : ∀ h : Int, (ts.filter fun t => decide (t.1 = h)).length ≤ 8
theorem Fine.pre {n : Nat} {ts : Ts} (F : Fine n ts) : Pre n ts := ⟨F.nd, F.rg, F.ne, F.bal, F.most⟩
theorem Pre.fine {n : Nat} {ts : Ts} (P : Pre n ts) (n1 : 2 ≤ n) (n2 : n ≤ 32) (c : ∀ a b, a < n → b < n → ∃ k, Walk ts k a b) : Fine n ts := ⟨n1, n2, P.nd, P.rg, P.ne, P.bal, P.most, c⟩
theorem Fine.perm {n : Nat} {ts ts' : Ts} (F : Fine n ts) (p : ts'.Perm ts) : Fine n ts' :=
  ⟨F.n1, F.n2, p.nodup_iff.mpr F.nd, fun t ht => F.rg t (p.mem_iff.mp ht), fun t ht => F.ne t (p.mem_iff.mp ht), fun h => by rw [(p.filter _).length_eq, (p.filter _).length_eq]; exact F.bal h,
   fun h => by rw [(p.filter _).length_eq]; exact F.most h, fun a b ha hb => let ⟨k, w⟩ := F.con a b ha hb; ⟨k, w.mono fun t ht => p.mem_iff.mpr ht⟩⟩
theorem Fine.app {n : Nat} {ts us : Ts} (F : Fine n ts) (P : Pre n (ts ++ us)) : Fine n (ts ++ us) :=
  P.fine F.n1 F.n2 fun a b ha hb => let ⟨k, w⟩ := F.con a b ha hb; ⟨k, w.mono fun t ht => List.mem_append_left _ ht⟩
def pk (c k : Nat) : Nat := if k = 0 then c - 1 else k - 1
abbrev ci (x : Nat) : Int := (x : Int)
def cyc (xs : List Nat) : Ts := (List.range xs.length).map fun k => (ci (xs.getD (pk xs.length k) 0), ci (xs.getD k 0))
theorem getD_eq {xs : List Nat} {k : Nat} (h : k < xs.length) : xs.getD k 0 = xs[k] := by rw [List.getD_eq_getElem?_getD, List.getElem?_eq_getElem h]; rfl
theorem cyc_snd (xs : List Nat) : (cyc xs).map (·.2) = xs.map ci := by
  unfold cyc
  rw [List.map_map]
  apply List.ext_getElem
  · simp
  · intro i h1 h2
    simp only [List.getElem_map, List.getElem_range, Function.comp]
    rw [getD_eq (by simpa using h2)]
theorem cyc_fst (xs : List Nat) : ((cyc xs).map (·.1)).Perm (xs.map ci) := by
  cases hx : xs with
  | nil => exact List.Perm.refl _
  | cons y ys =>
    rw [← hx]
    have hl : xs.length = ys.length + 1 := by rw [hx]; rfl
    have e : (cyc xs).map (·.1) = ci (xs.getD (xs.length - 1) 0) :: (xs.take (xs.length - 1)).map ci := by
      unfold cyc
      rw [List.map_map]
      apply List.ext_getElem
      · simp; omega
      · intro i h1 h2
        simp only [List.getElem_map, List.getElem_range, Function.comp]
        cases i with
        | zero => rfl
        | succ i =>
          have hi : i + 1 < xs.length := by simpa using h1
          simp only [List.getElem_cons_succ, List.getElem_map, List.getElem_take]
          unfold pk
          rw [if_neg (by omega), show i + 1 - 1 = i by omega, getD_eq (by omega)]
    rw [e]
    have : xs.map ci = (xs.take (xs.length - 1)).map ci ++ [ci (xs.getD (xs.length - 1) 0)] := by
      conv => lhs; rw [← List.take_append_drop (xs.length - 1) xs]
      rw [List.map_append]
      congr 1
      rw [List.drop_eq_getElem_cons (by omega), List.drop_eq_nil_of_le (by omega), getD_eq (by omega)]
      rfl
    rw [this]
    exact (List.perm_append_singleton _ _).symm
theorem filter_fst_count (ts : Ts) (h : Int) : (ts.filter fun t => decide (t.1 = h)).length = (ts.map (·.1)).count h := by
  induction ts with
  | nil => rfl
  | cons t ts ih => by_cases e : t.1 = h <;> simp [List.filter_cons, List.count_cons, e, ih]
theorem filter_snd_count (ts : Ts) (h : Int) : (ts.filter fun t => decide (t.2 = h)).length = (ts.map (·.2)).count h := by
  induction ts with
  | nil => rfl
  | cons t ts ih => by_cases e : t.2 = h <;> simp [List.filter_cons, List.count_cons, e, ih]
theorem ci_nodup {xs : List Nat} (h : xs.Nodup) : (xs.map ci).Nodup := by
  refine List.pairwise_map.mpr (h.imp fun {a b} hab e => hab ?_)
  exact Int.ofNat.inj e
theorem nodup_of_map {α β : Type} {f : α → β} : ∀ {l : List α}, (l.map f).Nodup → l.Nodup
  | [], _ => List.nodup_nil
  | a :: l, h => by
    rw [List.map_cons] at h
    obtain ⟨h1, h2⟩ := List.nodup_cons.mp h
    exact List.nodup_cons.mpr ⟨fun z => h1 (List.mem_map.mpr ⟨a, z, rfl⟩), nodup_of_map h2⟩
theorem cyc_mem {xs : List Nat} {t : Int × Int} (h : t ∈ cyc xs) : ∃ k, k < xs.length ∧ t = (ci (xs.getD (pk xs.length k) 0), ci (xs.getD k 0)) := by
  obtain ⟨k, hk, rfl⟩ := List.mem_map.mp h
  exact ⟨k, List.mem_range.mp hk, rfl⟩
theorem pk_lt {c k : Nat} (h : k < c) : pk c k < c := by unfold pk; split <;> omega
theorem getD_mem' {xs : List Nat} {k : Nat} (h : k < xs.length) : xs.getD k 0 ∈ xs := by rw [getD_eq h]; exact List.getElem_mem h
theorem nodup_inj {xs : List Nat} (nd : xs.Nodup) {i j : Nat} (hi : i < xs.length) (hj : j < xs.length) (e : xs[i] = xs[j]) : i = j := by
  have pw := List.pairwise_iff_getElem.mp nd
  rcases Nat.lt_trichotomy i j with z | z | z
  · exact absurd e (pw i j hi hj z)
  · exact z
  · exact absurd e.symm (pw j i hj hi z)
theorem cyc_pre {n : Nat} {xs : List Nat} (nd : xs.Nodup) (lt : ∀ x ∈ xs, x < n) (c2 : 2 ≤ xs.length) : Pre n (cyc xs) ∧ ∀ h : Int, ((cyc xs).filter fun t => decide (t.1 = h)).length ≤ 1 := by
  have nd2 : ((cyc xs).map (·.2)).Nodup := by rw [cyc_snd]; exact ci_nodup nd
  have one : ∀ h : Int, ((cyc xs).filter fun t => decide (t.1 = h)).length ≤ 1 := fun h => by
    rw [filter_fst_count, (cyc_fst xs).count_eq]
    exact List.nodup_iff_count.mp (ci_nodup nd) h
  refine ⟨⟨nodup_of_map nd2, fun t ht => ?_, fun t ht => ?_, fun h => ?_, fun h => Nat.le_trans (one h) (by decide)⟩, one⟩
  · obtain ⟨k, hk, rfl⟩ := cyc_mem ht
    have h1 := lt _ (getD_mem' (pk_lt hk))
    have h2 := lt _ (getD_mem' hk)
    simp only [ci]
    omega
  · obtain ⟨k, hk, rfl⟩ := cyc_mem ht
    intro e
    have e' : xs.getD (pk xs.length k) 0 = xs.getD k 0 := Int.ofNat.inj e
    rw [getD_eq (pk_lt hk), getD_eq hk] at e'
    have := nodup_inj nd (pk_lt hk) hk e'
    unfold pk at this
    split at this <;> omega
  · rw [filter_fst_count, filter_snd_count, (cyc_fst xs).count_eq, cyc_snd]
theorem pre_app {n : Nat} {ts us : Ts} (P : Pre n ts) (Q : Pre n us) (hd : ∀ t ∈ us, t ∉ ts) (hm : ∀ h : Int, (ts.filter fun t => decide (t.1 = h)).length + (us.filter fun t => decide (t.1 = h)).length ≤ 8) : Pre n (ts ++ us) := by
  refine ⟨List.nodup_append.mpr ⟨P.nd, Q.nd, fun a ha b hb e => hd b hb (e ▸ ha)⟩, fun t ht => ?_, fun t ht => ?_, fun h => ?_, fun h => ?_⟩
  · rcases List.mem_append.mp ht with z | z
    · exact P.rg t z
    · exact Q.rg t z
  · rcases List.mem_append.mp ht with z | z
    · exact P.ne t z
    · exact Q.ne t z
  · rw [List.filter_append, List.filter_append, List.length_append, List.length_append, P.bal, Q.bal]
  · rw [List.filter_append, List.length_append]; exact hm h
theorem round_pre {n : Nat} {ts : Ts} {xs : List Nat} (P : Pre n ts) (nd : xs.Nodup) (lt : ∀ x ∈ xs, x < n) (c2 : 2 ≤ xs.length) (hf : ∀ t ∈ cyc xs, (ts.filter fun u => decide (u.1 = t.1)).length ≤ 7) (hn : ∀ t ∈ cyc xs, t ∉ ts) : Pre n (ts ++ cyc xs) := by
  obtain ⟨Q, one⟩ := cyc_pre nd lt c2
  refine pre_app P Q hn fun h => ?_
  by_cases z : (cyc xs).filter (fun t => decide (t.1 = h)) = []
  · rw [z]; simpa using P.most h
  · obtain ⟨t, ht⟩ := List.exists_mem_of_ne_nil _ z
    obtain ⟨h1, h2⟩ := List.mem_filter.mp ht
    have e : t.1 = h := by simpa using h2
    have a := hf t h1
    rw [e] at a
    have := one h
    omega
theorem cyc_T {xs : List Nat} {k : Nat} (hk : k < xs.length) : T (cyc xs) (xs.getD (pk xs.length k) 0) (xs.getD k 0) := List.mem_map.mpr ⟨k, List.mem_range.mpr hk, rfl⟩
theorem cyc_up {xs : List Nat} (i : Nat) : ∀ (d : Nat), i + d < xs.length → Walk (cyc xs) d (xs.getD i 0) (xs.getD (i + d) 0)
  | 0, _ => rfl
  | d + 1, h => by
    refine ⟨_, cyc_up i d (by omega), ?_⟩
    have := cyc_T (xs := xs) (k := i + (d + 1)) h
    unfold pk at this
    rw [if_neg (by omega)] at this
    exact this
theorem ring_fine {n : Nat} {xs : List Nat} (n1 : 2 ≤ n) (n2 : n ≤ 32) (pm : xs.Perm (List.range n)) : Fine n (cyc xs) := by
  have hl : xs.length = n := by rw [pm.length_eq, List.length_range]
  have nd : xs.Nodup := pm.nodup_iff.mpr List.nodup_range
  have lt : ∀ x ∈ xs, x < n := fun x hx => List.mem_range.mp (pm.mem_iff.mp hx)
  refine (cyc_pre nd lt (by omega)).1.fine n1 n2 fun a b ha hb => ?_
  obtain ⟨i, hi, ei⟩ := List.mem_iff_getElem.mp (pm.mem_iff.mpr (List.mem_range.mpr ha))
  obtain ⟨j, hj, ej⟩ := List.mem_iff_getElem.mp (pm.mem_iff.mpr (List.mem_range.mpr hb))
  have w1 := cyc_up (xs := xs) i (xs.length - 1 - i) (by omega)
  have t0 := cyc_T (xs := xs) (k := 0) (by omega)
  have w3 := cyc_up (xs := xs) 0 j (by omega)
  rw [show i + (xs.length - 1 - i) = xs.length - 1 by omega] at w1
  rw [show pk xs.length 0 = xs.length - 1 from rfl] at t0
  rw [Nat.zero_add] at w3
  have w := w1.trans (Walk.cons t0 w3)
  rw [getD_eq hi, getD_eq hj, ei, ej] at w
  exact ⟨_, w⟩
theorem full_count : ∀ (hs : List Nat) (ts : Ts), hs.Nodup → (∀ h ∈ hs, 8 ≤ (ts.filter fun t => decide (t.1 = ci h)).length) → 8 * hs.length ≤ ts.length
  | [], _, _, _ => by simp
  | h :: hs, ts, nd, hf => by
    obtain ⟨h1, h2⟩ := List.nodup_cons.mp nd
    have e : ts.length = (ts.filter fun t => decide (t.1 = ci h)).length + (ts.filter fun t => !decide (t.1 = ci h)).length := by
      clear hf
      induction ts with
      | nil => rfl
      | cons x xs ih2 => by_cases q : x.1 = ci h <;> simp [List.filter_cons, q] <;> omega
    have a := hf h List.mem_cons_self
    have ih := full_count hs (ts.filter fun t => !decide (t.1 = ci h)) h2 fun x hx => by
      refine Nat.le_trans (hf x (List.mem_cons_of_mem _ hx)) (Nat.le_of_eq ?_)
      rw [List.filter_filter]
      congr 1
      refine List.filter_congr fun t _ => ?_
      by_cases q : t.1 = ci x
      · have : ¬ t.1 = ci h := fun z => h1 (by have := Int.ofNat.inj (z.symm.trans q); exact this ▸ hx)
        simp [q]
        rw [q] at this
        exact this
      · simp [q]
    rw [List.length_cons]
    omega
structure Tree (n : Nat) (os : List Nat) (k : Nat) (ts : Ts) : Prop where
  pre : Pre n ts
  ends : ∀ t ∈ ts, ∃ a b, a ∈ os.take k ∧ b ∈ os.take k ∧ t = (ci a, ci b)
  con : ∀ a b, a ∈ os.take k → b ∈ os.take k → ∃ j, Walk ts j a b
  len : ts.length + 2 = 2 * k
theorem Tree.start {n : Nat} {os : List Nat} (h : 0 < os.length) : Tree n os 1 [] := by
  refine ⟨⟨List.nodup_nil, (fun t h => nomatch h), (fun t h => nomatch h), fun h => rfl, fun h => by simp⟩, (fun t h => nomatch h), fun a b ha hb => ?_, rfl⟩
  cases os with
  | nil => simp at h
  | cons o os =>
    simp at ha hb
    exact ⟨0, by rw [ha, hb]; rfl⟩
theorem Tree.free {n : Nat} {os : List Nat} {k : Nat} {ts : Ts} (T : Tree n os k ts) (nd : os.Nodup) (hk : k ≤ os.length) : ∃ h ∈ os.take k, (ts.filter fun t => decide (t.1 = ci h)).length < 8 := by
  apply Classical.byContradiction
  intro hno
  have := full_count (os.take k) ts (nd.sublist (List.take_sublist _ _)) fun h hh => Classical.byContradiction fun z => hno ⟨h, hh, by omega⟩
  have hl := T.len
  rw [List.length_take, Nat.min_eq_left hk] at this
  omega
theorem Tree.add {n : Nat} {os : List Nat} {k s v : Nat} {ts : Ts} (Tr : Tree n os k ts) (nd : os.Nodup) (lt : ∀ x ∈ os, x < n) (hv : os[k]? = some v) (hs : s ∈ os.take k) (hd : (ts.filter fun t => decide (t.1 = ci s)).length < 8) : Tree n os (k + 1) (ts ++ [(ci s, ci v), (ci v, ci s)]) := by
  have tk : os.take (k + 1) = os.take k ++ [v] := by rw [List.take_add_one, hv]; rfl
  have nd1 : (os.take k ++ [v]).Nodup := by rw [← tk]; exact nd.sublist (List.take_sublist _ _)
  have vn : v ∉ os.take k := fun z => (List.nodup_append.mp nd1).2.2 v z v (by simp) rfl
  have sv : s ≠ v := fun e => vn (e ▸ hs)
  have vm : v ∈ os := List.mem_of_getElem? hv
  have sl := lt s (List.mem_of_mem_take hs)
  have vl := lt v vm
  have nov : ∀ t ∈ ts, t.1 ≠ ci v ∧ t.2 ≠ ci v := fun t ht => by
    obtain ⟨a, b, ha, hb, rfl⟩ := Tr.ends t ht
    exact ⟨fun e => vn (Int.ofNat.inj e ▸ ha), fun e => vn (Int.ofNat.inj e ▸ hb)⟩
  have Q : Pre n [(ci s, ci v), (ci v, ci s)] := by
    have svi : ci s ≠ ci v := fun e => sv (Int.ofNat.inj e)
    refine ⟨?_, fun t ht => ?_, fun t ht => ?_, fun h => ?_, fun h => Nat.le_trans (List.length_filter_le _ _) (by simp)⟩
    · simp [svi]
    · simp at ht
      rcases ht with rfl | rfl <;> (simp only [ci]; omega)
    · simp at ht
      rcases ht with rfl | rfl
      · exact svi
      · exact svi.symm
    · by_cases a : ci s = h <;> by_cases b : ci v = h <;> simp [List.filter_cons, a, b]
  have P2 : Pre n (ts ++ [(ci s, ci v), (ci v, ci s)]) := by
    refine pre_app Tr.pre Q (fun t ht z => ?_) fun h => ?_
    · simp at ht
      rcases ht with rfl | rfl
      · exact (nov _ z).2 rfl
      · exact (nov _ z).1 rfl
    · have svi : ci s ≠ ci v := fun e => sv (Int.ofNat.inj e)
      by_cases a : ci s = h
      · subst a
        have b : ¬ ci v = ci s := svi.symm
        simp only [List.filter_cons, decide_true, if_true, decide_eq_false b]
        simp
        omega
      · by_cases b : ci v = h
        · subst b
          have z : ts.filter (fun t => decide (t.1 = ci v)) = [] := List.filter_eq_nil_iff.mpr fun t ht => by simpa using (nov t ht).1
          rw [z]
          exact Nat.le_trans (Nat.add_le_add_left (List.length_filter_le _ _) _) (by simp)
        · have := Tr.pre.most h
          simp [List.filter_cons, a, b]
          exact this
  have up : ∀ t ∈ ts, t ∈ ts ++ [(ci s, ci v), (ci v, ci s)] := fun t ht => List.mem_append_left _ ht
  have t1 : T (ts ++ [(ci s, ci v), (ci v, ci s)]) s v := List.mem_append_right _ (by simp)
  have t2 : T (ts ++ [(ci s, ci v), (ci v, ci s)]) v s := List.mem_append_right _ (by simp)
  have toS : ∀ a, a ∈ os.take k ++ [v] → ∃ j, Walk (ts ++ [(ci s, ci v), (ci v, ci s)]) j a s := fun a ha => by
    rcases List.mem_append.mp ha with z | z
    · obtain ⟨j, w⟩ := Tr.con a s z hs
      exact ⟨j, w.mono up⟩
    · simp at z; subst z; exact ⟨1, Walk.one t2⟩
  have ofS : ∀ b, b ∈ os.take k ++ [v] → ∃ j, Walk (ts ++ [(ci s, ci v), (ci v, ci s)]) j s b := fun b hb => by
    rcases List.mem_append.mp hb with z | z
    · obtain ⟨j, w⟩ := Tr.con s b hs z
      exact ⟨j, w.mono up⟩
    · simp at z; subst z; exact ⟨1, Walk.one t1⟩
  refine ⟨P2, fun t ht => ?_, fun a b ha hb => ?_, ?_⟩
  · rw [tk]
    rcases List.mem_append.mp ht with z | z
    · obtain ⟨a, b, ha, hb, e⟩ := Tr.ends t z
      exact ⟨a, b, List.mem_append_left _ ha, List.mem_append_left _ hb, e⟩
    · simp at z
      rcases z with rfl | rfl
      · exact ⟨s, v, List.mem_append_left _ hs, by simp, rfl⟩
      · exact ⟨v, s, by simp, List.mem_append_left _ hs, rfl⟩
  · rw [tk] at ha hb
    obtain ⟨i, w1⟩ := toS a ha
    obtain ⟨j, w2⟩ := ofS b hb
    exact ⟨i + j, w1.trans w2⟩
  · have := Tr.len
    rw [List.length_append]
    simp
    omega
theorem Tree.fine {n : Nat} {os : List Nat} {ts : Ts} (Tr : Tree n os n ts) (n1 : 2 ≤ n) (n2 : n ≤ 32) (pm : os.Perm (List.range n)) : Fine n ts := by
  have hl : os.length = n := by rw [pm.length_eq, List.length_range]
  refine Tr.pre.fine n1 n2 fun a b ha hb => Tr.con a b ?_ ?_
  · rw [List.take_of_length_le (by omega)]; exact pm.mem_iff.mpr (List.mem_range.mpr ha)
  · rw [List.take_of_length_le (by omega)]; exact pm.mem_iff.mpr (List.mem_range.mpr hb)
end NetM
namespace NetM
theorem Walk.split {ts : Ts} {s x : Nat} : ∀ {m d : Nat}, d ≤ m → Walk ts m s x → ∃ y, Walk ts d s y ∧ Walk ts (m - d) y x
  | m, d, h, w => by
    induction m generalizing x with
    | zero =>
      have : d = 0 := by omega
      subst this
      exact ⟨s, rfl, w⟩
    | succ m ih =>
      by_cases e : d = m + 1
      · subst e
        exact ⟨x, w, by rw [Nat.sub_self]; rfl⟩
      · obtain ⟨c, w1, t⟩ := w
        obtain ⟨y, a, b⟩ := ih (by omega) w1
        exact ⟨y, a, by rw [show m + 1 - d = (m - d) + 1 by omega]; exact ⟨c, b, t⟩⟩
theorem Fine.wlt {n : Nat} {ts : Ts} (F : Fine n ts) {s : Nat} (hs : s < n) : ∀ {k x : Nat}, Walk ts k s x → x < n
  | 0, _, e => by cases e; exact hs
  | _ + 1, _, ⟨_, _, t⟩ => (F.tlt t).2.1
theorem Fine.far_le {n : Nat} {ts : Ts} (F : Fine n ts) {a b k : Nat} (ha : a < n) (hb : b < n) (w : Walk ts k a b) : far ts a b ≤ k := (F.fars ha hb).2 k w
theorem Fine.far_tie {n : Nat} {ts : Ts} (F : Fine n ts) {s u v : Nat} (hs : s < n) (hu : u < n) (t : T ts u v) : far ts s v ≤ far ts s u + 1 :=
  F.far_le hs (F.tlt t).2.1 ⟨u, (F.fars hs hu).1, t⟩
theorem Fine.far_pred {n : Nat} {ts : Ts} (F : Fine n ts) {s x d : Nat} (hs : s < n) (hx : x < n) (h : far ts s x = d + 1) : ∃ u, u < n ∧ far ts s u = d ∧ T ts u x := by
  have w := (F.fars hs hx).1
  rw [h] at w
  obtain ⟨u, wu, t⟩ := w
  have hu : u < n := (F.tlt t).1
  have h1 := F.far_le hs hu wu
  have h2 := F.far_tie hs hu t
  exact ⟨u, hu, by omega, t⟩
theorem Fine.far_mid {n : Nat} {ts : Ts} (F : Fine n ts) {s x d : Nat} (hs : s < n) (hx : x < n) (h : d ≤ far ts s x) : ∃ y, y < n ∧ far ts s y = d := by
  obtain ⟨y, a, b⟩ := Walk.split h (F.fars hs hx).1
  have hy := F.wlt hs a
  refine ⟨y, hy, ?_⟩
  have h1 := F.far_le hs hy a
  have h2 := F.far_le hs hx ((F.fars hs hy).1.trans b)
  omega
structure Lay (n : Nat) (ts : Ts) (s d : Nat) (xs ls : List Nat) : Prop where
  ndx : xs.Nodup
  ndl : ls.Nodup
  mx : ∀ x, x ∈ xs ↔ x < n ∧ far ts s x ≤ d
  ml : ∀ x, x ∈ ls ↔ x < n ∧ far ts s x = d
theorem Lay.start {n : Nat} {ts : Ts} {s : Nat} (F : Fine n ts) (hs : s < n) : Lay n ts s 0 [s] [s] := by
  have key : ∀ x, x = s ↔ x < n ∧ far ts s x = 0 := fun x => by
    constructor
    · rintro rfl; exact ⟨hs, far_self⟩
    · rintro ⟨hx, h⟩
      have w := (F.fars hs hx).1
      rw [h] at w
      exact w.symm
  refine ⟨by simp, by simp, fun x => ?_, fun x => ?_⟩
  · rw [List.mem_singleton, key]; constructor <;> rintro ⟨a, b⟩ <;> exact ⟨a, by omega⟩
  · rw [List.mem_singleton, key]
structure Fur (n : Nat) (ts : Ts) (xs ls : List Nat) (j : Nat) (fs : List Nat) : Prop where
  nd : fs.Nodup
  nx : ∀ x ∈ fs, x ∉ xs
  from_ : ∀ x ∈ fs, ∃ u ∈ ls, T ts u x
  all : ∀ u ∈ ls.take j, ∀ v, T ts u v → v ∈ xs ∨ v ∈ fs
theorem Fur.start {n : Nat} {ts : Ts} {xs ls : List Nat} : Fur n ts xs ls 0 [] := ⟨by simp, (fun x h => nomatch h), (fun x h => nomatch h), fun u hu => by simp at hu⟩
theorem outN_nodup {n : Nat} {ts : Ts} {h : Nat} (hh : h < n) : (outN n ts h).Nodup := (outN_sorted hh).imp fun {a b} hab e => by subst e; omega
theorem Fur.step {n : Nat} {ts : Ts} {xs ls fs : List Nat} {j u : Nat} (F : Fine n ts) (S : Fur n ts xs ls j fs) (hu : ls[j]? = some u) (hun : u < n) :
    Fur n ts xs ls (j + 1) (fs ++ (outN n ts u).filter fun o => !decide (o ∈ xs) && !decide (o ∈ fs)) := by
  have tk : ls.take (j + 1) = ls.take j ++ [u] := by rw [List.take_add_one, hu]; rfl
  refine ⟨?_, fun x hx => ?_, fun x hx => ?_, fun w hw v t => ?_⟩
  · rw [List.nodup_append]
    refine ⟨S.nd, (outN_nodup hun).filter _, fun a ha b hb e => ?_⟩
    subst e
    have := (List.mem_filter.mp hb).2
    simp [ha] at this
  · rcases List.mem_append.mp hx with z | z
    · exact S.nx x z
    · have := (List.mem_filter.mp z).2
      simp at this
      exact this.1
  · rcases List.mem_append.mp hx with z | z
    · exact S.from_ x z
    · exact ⟨u, List.mem_of_getElem? hu, (outN_mem F hun).mp (List.mem_filter.mp z).1⟩
  · rw [tk] at hw
    rcases List.mem_append.mp hw with z | z
    · rcases S.all w z v t with q | q
      · exact .inl q
      · exact .inr (List.mem_append_left _ q)
    · simp at z; subst z
      by_cases h1 : v ∈ xs
      · exact .inl h1
      · by_cases h2 : v ∈ fs
        · exact .inr (List.mem_append_left _ h2)
        · exact .inr (List.mem_append_right _ (List.mem_filter.mpr ⟨(outN_mem F hun).mpr t, by simp [h1, h2]⟩))
theorem Lay.next {n : Nat} {ts : Ts} {s d : Nat} {xs ls fs : List Nat} (L : Lay n ts s d xs ls) (F : Fine n ts) (hs : s < n) (S : Fur n ts xs ls ls.length fs) : Lay n ts s (d + 1) (xs ++ fs) fs := by
  have al : ∀ u ∈ ls, ∀ v, T ts u v → v ∈ xs ∨ v ∈ fs := fun u hu => S.all u (by rw [List.take_length]; exact hu)
  have mf : ∀ x, x ∈ fs ↔ x < n ∧ far ts s x = d + 1 := fun x => by
    constructor
    · intro hx
      obtain ⟨u, hu, t⟩ := S.from_ x hx
      obtain ⟨hun, hud⟩ := (L.ml u).mp hu
      have hxn := (F.tlt t).2.1
      have h1 := F.far_tie hs hun t
      have h2 : ¬ far ts s x ≤ d := fun z => S.nx x hx ((L.mx x).mpr ⟨hxn, z⟩)
      exact ⟨hxn, by omega⟩
    · rintro ⟨hxn, h⟩
      obtain ⟨u, hun, hud, t⟩ := F.far_pred hs hxn h
      rcases al u ((L.ml u).mpr ⟨hun, hud⟩) x t with q | q
      · have := ((L.mx x).mp q).2
        omega
      · exact q
  refine ⟨?_, S.nd, fun x => ?_, mf⟩
  · rw [List.nodup_append]
    exact ⟨L.ndx, S.nd, fun a ha b hb e => S.nx b hb (e ▸ ha)⟩
  · rw [List.mem_append, L.mx, mf]
    constructor
    · rintro (⟨a, b⟩ | ⟨a, b⟩)
      · exact ⟨a, by omega⟩
      · exact ⟨a, by omega⟩
    · rintro ⟨a, b⟩
      by_cases e : far ts s x ≤ d
      · exact .inl ⟨a, e⟩
      · exact .inr ⟨a, by omega⟩
theorem Lay.done {n : Nat} {ts : Ts} {s d : Nat} {xs : List Nat} (L : Lay n ts s d xs []) (F : Fine n ts) (hs : s < n) {x : Nat} (hx : x < n) : x ∈ xs := by
  refine (L.mx x).mpr ⟨hx, ?_⟩
  apply Classical.byContradiction
  intro h
  obtain ⟨y, hy, e⟩ := F.far_mid hs hx (d := d) (by omega)
  exact absurd ((L.ml y).mpr ⟨hy, e⟩) (by simp)
theorem Lay.len {n : Nat} {ts : Ts} {s d : Nat} {xs ls : List Nat} (L : Lay n ts s d xs ls) : xs.length ≤ n := nodup_lt_len L.ndx fun x hx => ((L.mx x).mp hx).1
end NetM
namespace L2
open PySem PySem.Spec PyProof.Rows
section
variable {X : Cx}
theorem ints_its : ∀ {ns : List Int} {its : List Value}, Vals (ns.map V.int) its → ∃ xs : List (Int × Tok), its = xs.map (fun p => Value.int p.1 p.2) ∧ xs.map (·.1) = ns
  | [], _, r => by cases r; exact ⟨[], rfl, rfl⟩
  | n :: ns, _, r => by
    cases r with
    | cons r rr =>
      obtain ⟨t, rfl⟩ := (show ∃ t, _ = Value.int n t from r)
      obtain ⟨xs, rfl, e⟩ := ints_its rr
      exact ⟨(n, t) :: xs, rfl, by rw [List.map_cons, e]⟩
def rMaxL (K : PySem.W.Frag) : List V → Hp → VK → Prop := fun xs H Q => ∃ (l : Addr) (ns : List Int), xs = [.ref l] ∧ SqL K H l (ns.map V.int) ∧ ns ≠ [] ∧ ∀ M, M ∈ ns → (∀ a ∈ ns, a ≤ M) → Q (.int M) H
theorem call_maxL (hc : X.calm = true) : CallR X (.builtin "max") (rMaxL X.K) := by
  intro pins s σ H xs us Q I r h
  obtain ⟨l, ns, rfl, hl, hne, q⟩ := h
  obtain ⟨u1, rfl, r1⟩ := r.one
  obtain rfl : u1 = Value.ref l := r1
  obtain ⟨its, rv, pl, _⟩ := I.list hl
  obtain ⟨ps, rfl, rfl⟩ := ints_its rv
  have hi : intItems ps.toArray = (ps.map (fun p => Value.int p.1 p.2)).toArray := by unfold intItems; simp
  have hsz : 0 < ps.toArray.size := by
    cases ps with
    | nil => exact absurd rfl hne
    | cons p ps => simp
  refine max_intList (I.ok.hd hc) (xs := ps.toArray) (by rw [hi]; exact pl.isList) hsz fun v h' tk hv hk => ?_
  obtain ⟨t, rfl⟩ := intItems_at hv
  obtain ⟨h1, h2⟩ := argBest_gt (numAt ps.toArray) (ps.toArray.size - 1)
  have num : ∀ j, j < ps.length → numAt ps.toArray j ∈ ps.map (·.1) ∧ numAt ps.toArray j = (ps.map (·.1)).getD j 0 := fun j hj => by
    have e : numAt ps.toArray j = ps[j].1 := by unfold numAt; simp [List.getElem?_eq_getElem hj]
    refine ⟨by rw [e]; exact List.mem_map.mpr ⟨_, List.getElem_mem hj, rfl⟩, ?_⟩
    rw [e, List.getD_eq_getElem?_getD, List.getElem?_map, List.getElem?_eq_getElem hj]; rfl
  have hb : argBest (fun i j => decide (numAt ps.toArray i > numAt ps.toArray j)) (ps.toArray.size - 1) < ps.length := by
    have : ps.toArray.size = ps.length := by simp
    omega
  refine ⟨.int _, H, I.kept (t' := tk) hk, ⟨t, rfl⟩, q _ (num _ hb).1 fun a ha => ?_⟩
  obtain ⟨j, hj, e⟩ := List.mem_iff_getElem.mp ha
  rw [List.length_map] at hj
  have := h2 j (by have : ps.toArray.size = ps.length := by simp
                   omega)
  rw [(num j hj).2, List.getD_eq_getElem?_getD, List.getElem?_eq_getElem (by rw [List.length_map]; exact hj)] at this
  rw [← e]
  exact this
def rIsiT (K : PySem.W.Frag) : List V → Hp → VK → Prop := fun xs H Q => ∃ (p C tp : Addr) (cs : List Addr) (b : Bool), xs = [.ref p, .ref tp] ∧ ECls K C ∧ H p = some (excO p (.ref C)) ∧ SqT K H tp (cs.map V.ref) ∧ PySem.W.kitAny K (.ref C) (cs.map Value.ref) = some b ∧ Q (.bl b) H
theorem call_isiT : CallR X (.builtin "isinstance") (rIsiT X.K) := by
  intro pins s σ H xs us Q I r h
  obtain ⟨p, C, tp, cs, b, rfl, T, ea, ht, e, q⟩ := h
  obtain ⟨u1, u2, rfl, r1, r2⟩ := r.two
  obtain rfl : u1 = Value.ref p := r1
  obtain rfl : u2 = Value.ref tp := r2
  have p1 : IsX p (.ref C) s.heap := (I.hok p _ ea).1
  obtain ⟨its, rv, ⟨⟨ocls, od, odata, osl⟩, eo, hcl, n, hd⟩, _⟩ := I.tuple ht
  have hits := refs_of' rv
  subst hits
  simp only at hcl hd
  subst hcl; subst hd
  exact PySem.W.kia_tup (kitx_exc T) I.kIn p1 eo e (fun z => nomatch z) fun tk => ⟨.bl b, H, I.tok tk, rfl, q⟩
theorem elEq_list {H : Hp} {a b : Addr} {xs ys : List V} {e : V → V → Bool} (ha : SqL X.K H a xs) (hb : SqL X.K H b ys) (hab : a ≠ b) (fx : xs.all flatV = true) (fy : ys.all flatV = true) (he : e (.ref a) (.ref b) = allEq eqV xs ys) : ElEq X H e (.ref a) (.ref b) := by
  intro pins s σ A u v I hu rx ry
  obtain rfl : u = Value.ref a := rx
  obtain rfl : v = Value.ref b := ry
  rw [he]
  obtain ⟨us, r1, p1, _⟩ := I.list ha
  obtain ⟨vs, r2, p2, _⟩ := I.list hb
  refine SeqAt.EqAt.of_refs hab ?_
  by_cases hl : xs.length = ys.length
  · have h := SeqAt.RcAt.lists (A := A) (s := s) (e := fun i => eqV (xs.getD i .non) (ys.getD i .non)) p1.isList p2.isList (by simp only [List.size_toArray]; rw [← r1.length, ← r2.length]; exact hl) (by omega) (items_flat r1 r2 fx fy)
    rw [show us.toArray.size = xs.length by rw [List.size_toArray, r1.length], ← allEq_range hl] at h
    exact h
  · have h := SeqAt.RcAt.lists_lengths (A := A) (s := s) p1.isList p2.isList (by simp only [List.size_toArray]; rw [← r1.length, ← r2.length]; simpa using hl) (by omega)
    rw [allEq_len hl]
    exact h
end
end L2
namespace K12
open PySem L2
def top (i : Nat) : Stmt := PySem.Challenge.pw_neverwait_k12_whole_distances.main.body.getD i (.Pass ⟨0, 0, 0, 0⟩)
abbrev sWhole : Stmt := top 16
abbrev sWithin : Stmt := top 17
abbrev sHouse : Stmt := top 18
abbrev sRow : Stmt := top 20
structure Bl (mg : Str → Option Value) : Prop where
  isi : mg "isinstance" = none
  int : mg "int" = none
  bool : mg "bool" = none
  tup : mg "tuple" = none
  lst : mg "list" = none
  str : mg "str" = none
  set : mg "set" = none
  len : mg "len" = none
  range : mg "range" = none
  sorted : mg "sorted" = none
  any : mg "any" = none
  max : mg "max" = none
  min : mg "min" = none
  verr : mg "ValueError" = none
  all : mg "all" = none
def NotWhole (K : PySem.W.Frag) (H : Hp) (x : V) : Prop := ∃ t, TyX K H x t ∧ (PySem.W.kitOne K t (.type "int") = some false ∨ (PySem.W.kitOne K t (.type "int") = some true ∧ PySem.W.kitOne K t (.type "bool") = some true))
theorem kit_int_int {K : PySem.W.Frag} : PySem.W.kitOne K (.type "int") (.type "int") = some true := by kernel_rfl
theorem kit_int_bool {K : PySem.W.Frag} : PySem.W.kitOne K (.type "int") (.type "bool") = some false := by kernel_rfl
inductive Wh (K : PySem.W.Frag) (H : Hp) : V → Option Int → Prop where
  | int (i : Int) : Wh K H (.int i) (some i)
  | no {x : V} (h : NotWhole K H x) : Wh K H x none
def spWhole (K : PySem.W.Frag) : Sp := fun vs H Q _ => ∃ x o, vs = [x] ∧ Wh K H x o ∧ Q (.bl o.isSome) H
section
variable {P : Program} {w : World} {K : PySem.W.Frag} {mg : Str → Option Value} {base : Heap}
theorem scWhole : FnScope ["thing"] ["thing"] (defScope sWhole) := ⟨rfl, rfl, rfl, by decide +kernel, rfl, by decide +kernel, by decide +kernel⟩
theorem ok_whole {f : Addr} {fd : FuncData} (F : Fun K "is_whole" "is_whole" sWhole f fd) (B : Bl mg) : FnOk P w K mg base CX0 1 f fd ["thing"] (spWhole K) := by
  refine F.ok scWhole (fun vs H Q E h => ?_) (fun cdv A outer s H vs Q E hr h => ?_)
  · obtain ⟨x, o, rfl, _⟩ := h
    rfl
  · obtain ⟨x, o, rfl, W, k⟩ := h
    refine ⟨_, pss_one (ps_ret (pe_and (pe_callB call_isi (by rfl) B.isi PyProof.Rows.boot_isinstance (pa_cons (pv 0) (pa_cons (pe_bltn (v := .ty "int") rfl B.int PyProof.Rows.boot_int rfl) pa_nil)))
      (pe_one (pe_not (pe_callB call_isi (by rfl) B.isi PyProof.Rows.boot_isinstance (pa_cons (pv 0) (pa_cons (pe_bltn (v := .ty "bool") rfl B.bool PyProof.Rows.boot_bool rfl) pa_nil))))))), ?_⟩
    cases W with
    | int i =>
      refine ⟨_, rfl, _, _, _, .type "int", true, rfl, ⟨rfl, kit_int_int⟩, .of (.int _), true, rfl, ?_⟩
      exact ⟨_, rfl, _, _, _, .type "int", false, rfl, ⟨rfl, kit_int_bool⟩, .of (.int _), false, rfl, k⟩
    | no h =>
      obtain ⟨t, ty, h | ⟨h1, h2⟩⟩ := h
      · exact ⟨_, rfl, _, _, _, t, false, rfl, ⟨rfl, h⟩, ty, false, rfl, k⟩
      · refine ⟨_, rfl, _, _, _, t, true, rfl, ⟨rfl, h1⟩, ty, true, rfl, ?_⟩
        exact ⟨_, rfl, _, _, _, t, true, rfl, ⟨rfl, h2⟩, ty, true, rfl, k⟩
end
section
variable {P : Program} {w : World} {K : PySem.W.Frag} {mg : Str → Option Value} {base : Heap}
def within (o : Option Int) (lo hi : Int) : Bool := match o with
  | some i => decide (lo ≤ i) && decide (i ≤ hi)
  | none => false
def spWithin (K : PySem.W.Frag) : Sp := fun vs H Q _ => ∃ x o lo hi, vs = [x, .int lo, .int hi] ∧ Wh K H x o ∧ Q (.bl (within o lo hi)) H
theorem scWithin : FnScope ["thing", "least", "most"] ["thing", "least", "most"] (defScope sWithin) := ⟨rfl, rfl, rfl, by decide +kernel, rfl, by decide +kernel, by decide +kernel⟩
theorem ok_within {f : Addr} {fd : FuncData} (F : Fun K "is_whole_within" "is_whole_within" sWithin f fd) (W : Cal P w K mg base CX0 1 "is_whole" ["thing"] (spWhole K)) : FnOk P w K mg base CX0 2 f fd ["thing", "least", "most"] (spWithin K) := by
  refine F.ok scWithin (fun vs H Q E h => ?_) (fun cdv A outer s H vs Q E hr h => ?_)
  · obtain ⟨x, o, lo, hi, rfl, _⟩ := h
    rfl
  · obtain ⟨x, o, lo, hi, rfl, wh, k⟩ := h
    refine ⟨_, pss_one (ps_ret (pe_and (pe_cal W hr pass0 (pa_cons (pv 0) pa_nil)) (pe_one (pe_chain op_le op_le (pv 1) (pv 0) (pv 2))))), ?_⟩
    refine ⟨_, rfl, x, o, rfl, wh, ?_⟩
    cases wh with
    | no h => exact ⟨false, rfl, k⟩
    | int i =>
      refine ⟨true, rfl, _, rfl, _, rfl, _, _, rfl, rfl, _, rfl, ?_⟩
      show if decide (lo ≤ i) = true then _ else _
      have k' : Q (.bl (decide (lo ≤ i) && decide (i ≤ hi))) H := k
      by_cases h : lo ≤ i
      · rw [decide_eq_true h] at k' ⊢
        exact ⟨_, rfl, _, _, rfl, rfl, k'⟩
      · rw [decide_eq_false h] at k' ⊢
        exact k'
def spHouse (K : PySem.W.Frag) : Sp := fun vs H Q _ => ∃ x o n, vs = [.int n, x] ∧ Wh K H x o ∧ Q (.bl (within o 0 (n - 1))) H
theorem scHouse : FnScope ["many", "thing"] ["many", "thing"] (defScope sHouse) := ⟨rfl, rfl, rfl, by decide +kernel, rfl, by decide +kernel, by decide +kernel⟩
theorem ok_house {f : Addr} {fd : FuncData} (F : Fun K "is_house" "is_house" sHouse f fd) (W : Cal P w K mg base CX0 2 "is_whole_within" ["thing", "least", "most"] (spWithin K)) : FnOk P w K mg base CX0 3 f fd ["many", "thing"] (spHouse K) := by
  refine F.ok scHouse (fun vs H Q E h => ?_) (fun cdv A outer s H vs Q E hr h => ?_)
  · obtain ⟨x, o, n, rfl, _⟩ := h
    rfl
  · obtain ⟨x, o, n, rfl, wh, k⟩ := h
    refine ⟨_, pss_one (ps_ret (pe_cal W hr pass0 (pa_cons (pv 1) (pa_cons pe_int (pa_cons (pe_op op_sub (pv 0) pe_int) pa_nil))))), ?_⟩
    exact ⟨_, rfl, _, rfl, _, _, rfl, rfl, x, o, 0, n - 1, rfl, wh, k⟩
inductive Rw (K : PySem.W.Frag) (H : Hp) : V → Option (List V) → Prop where
  | tup {p : Addr} {xs : List V} (h : H p = some (.tup xs)) : Rw K H (.ref p) (some xs)
  | no {x : V} {t : Value} (ty : TyX K H x t) (h : PySem.W.kitOne K t (.type "tuple") = some false) : Rw K H x none
def isRow (o : Option (List V)) (m : Int) : Bool := match o with
  | some xs => decide ((xs.length : Int) = m)
  | none => false
theorem kit_tup {K : PySem.W.Frag} : PySem.W.kitOne K (.type "tuple") (.type "tuple") = some true := by kernel_rfl
def spRow (K : PySem.W.Frag) : Sp := fun vs H Q _ => ∃ x o m, vs = [x, .int m] ∧ Rw K H x o ∧ Q (.bl (isRow o m)) H
theorem scRow : FnScope ["thing", "length"] ["thing", "length"] (defScope sRow) := ⟨rfl, rfl, rfl, by decide +kernel, rfl, by decide +kernel, by decide +kernel⟩
theorem ok_row {f : Addr} {fd : FuncData} (F : Fun K "is_row" "is_row" sRow f fd) (B : Bl mg) : FnOk P w K mg base CX0 1 f fd ["thing", "length"] (spRow K) := by
  refine F.ok scRow (fun vs H Q E h => ?_) (fun cdv A outer s H vs Q E hr h => ?_)
  · obtain ⟨x, o, m, rfl, _⟩ := h
    rfl
  · obtain ⟨x, o, m, rfl, W, k⟩ := h
    refine ⟨_, pss_one (ps_ret (pe_and (pe_callB call_isi (by rfl) B.isi PyProof.Rows.boot_isinstance (pa_cons (pv 0) (pa_cons (pe_bltn (v := .ty "tuple") rfl B.tup PyProof.Rows.boot_tuple rfl) pa_nil)))
      (pe_one (pe_cmpR op_eq (pe_callB call_len_seq (by rfl) B.len PySem.boot_len (pa_cons (pv 0) pa_nil)) (pv 1) (nomark _))))), ?_⟩
    cases W with
    | @tup p xs h =>
      refine ⟨_, rfl, _, _, _, .type "tuple", true, rfl, ⟨rfl, kit_tup⟩, .of (.tup h), true, rfl, ?_⟩
      refine ⟨_, rfl, _, _, rfl, .inr (SqT.of h), _, rfl, rfl, ?_⟩
      have e : decide (V.int ((xs.length : Nat) : Int) = V.int m) = decide (((xs.length : Nat) : Int) = m) := by simp
      rw [e]
      exact k
    | no ty h => exact ⟨_, rfl, _, _, _, _, false, rfl, ⟨rfl, h⟩, ty, false, rfl, k⟩
end
end K12
namespace K12
open PySem L2
theorem same_put {D : Addr} {H H' : Hp} {o : HO} (s : Same H H') (hD : H D = none) : Same H (upd H' D o) := fun b u e => by rw [upd_ne (ne_of_none e hD)]; exact s b u e
abbrev IV (ns : List Int) : List V := ns.map V.int
abbrev NV (ns : List Nat) : List V := ns.map fun (x : Nat) => V.int (x : Int)
theorem if_k {c : TT} {t u : TS} {D : Ends} {σ : St} {H : Hp} (Gy Gn : Hp → Prop) (hy : ∀ H, Gy H → t D σ H) (hn : ∀ H, Gn H → u D σ H)
    (ht : ∀ Y N : Hp → Prop, (∀ H, Gy H → Y H) → (∀ H, Gn H → N H) → c σ H fun b H1 => if b = true then Y H1 else N H1) : tIfS c t u D σ H := ht _ _ hy hn
theorem seq_k {t u : TS} {D : Ends} {σ : St} {H : Hp} (G : St → Hp → Prop) (hr : ∀ σ H, G σ H → u D σ H) (ht : ∀ N : St → Hp → Prop, (∀ σ H, G σ H → N σ H) → t { D with nx := N } σ H) : tSeq t u D σ H := ht _ hr
abbrev Zs := List (Addr × (Int × Int))
abbrev prT (u : Int × Int) : HO := .tup [.int u.1, .int u.2]
def zr (zs : Zs) : List V := zs.map fun z => V.ref z.1
def zp (zs : Zs) : List (Int × Int) := zs.map (·.2)
def PO (H : Hp) (zs : Zs) : Prop := ∀ z ∈ zs, H z.1 = some (prT z.2)
theorem zr_append {a b : Zs} : zr (a ++ b) = zr a ++ zr b := List.map_append
theorem zp_append {a b : Zs} : zp (a ++ b) = zp a ++ zp b := List.map_append
theorem zr_len {a : Zs} : (zr a).length = a.length := List.length_map _
theorem zp_len {a : Zs} : (zp a).length = a.length := List.length_map _
theorem zr_refs {a : Zs} : zr a = (a.map (·.1)).map V.ref := by unfold zr; rw [List.map_map]; rfl
theorem zr_get {zs : Zs} {i : Nat} {x : V} (h : (zr zs)[i]? = some x) : ∃ z, zs[i]? = some z ∧ x = .ref z.1 := by
  unfold zr at h
  rw [List.getElem?_map] at h
  cases e : zs[i]? with
  | none => rw [e] at h; cases h
  | some z => rw [e] at h; exact ⟨z, rfl, (Option.some.inj h).symm⟩
theorem PO.nil {H : Hp} : PO H [] := fun z hz => (nomatch hz)
theorem PO.same {H H' : Hp} {zs : Zs} (h : PO H zs) (s : Same H H') : PO H' zs := fun z hz => s _ _ (h z hz)
theorem PO.putL {H : Hp} {D : Addr} {xs : List V} {o : HO} {zs : Zs} (h : PO H zs) (e : H D = some (.lst xs)) : PO (upd H D o) zs := fun z hz => by
  have := h z hz
  rw [upd_ne (by rintro rfl; rw [e] at this; cases this)]; exact this
theorem PO.putN {H : Hp} {D : Addr} {o : HO} {zs : Zs} (h : PO H zs) (e : H D = none) : PO (upd H D o) zs := h.same (same_new e)
theorem PO.append {H : Hp} {a b : Zs} (h : PO H a) (h' : PO H b) : PO H (a ++ b) := fun z hz => (List.mem_append.mp hz).elim (h z) (h' z)
theorem PO.one {H : Hp} {p : Addr} {u : Int × Int} (h : H p = some (prT u)) : PO H [(p, u)] := fun z hz => by rw [List.mem_singleton.mp hz]; exact h
theorem getD_fst {zs : Zs} {i : Nat} (h : i < zs.length) : (zs.map (·.1)).getD i 0 = zs[i].1 := by
  rw [List.getD_eq_getElem?_getD, List.getElem?_map, List.getElem?_eq_getElem h]; rfl
theorem getD_zp {zs : Zs} {i : Nat} (h : i < zs.length) : (zp zs).getD i (0, 0) = zs[i].2 := by
  unfold zp
  rw [List.getD_eq_getElem?_getD, List.getElem?_map, List.getElem?_eq_getElem h]; rfl
theorem inP_of {K : PySem.W.Frag} {neg : Bool} {H : Hp} {p l : Addr} {u : Int × Int} {zs : Zs} {Q : VK} (hp : H p = some (prT u)) (hl : H l = some (.lst (zr zs))) (ho : PO H zs) (q : Q (.bl (if neg then !decide (u ∈ zp zs) else decide (u ∈ zp zs))) H) : rInP K neg (.ref p) (.ref l) H Q :=
  ⟨p, l, u, zs.map (·.1), zp zs, rfl, rfl, SqT.of hp, SqL.of (by rw [← zr_refs]; exact hl), by rw [List.length_map, zp_len], fun i hi => by
    rw [zp_len] at hi
    rw [getD_fst hi, getD_zp hi]
    exact SqT.of (ho _ (List.getElem_mem hi)), q⟩
theorem perm_lift {H : Hp} {zs : Zs} (ho : PO H zs) {as : List Addr} (h : as.Perm (zs.map (·.1))) : ∃ zs' : Zs, zs'.Perm zs ∧ as = zs'.map (·.1) := by
  classical
  let f : Addr → Int × Int := fun a => match H a with
    | some (.tup [.int x, .int y]) => (x, y)
    | _ => (0, 0)
  have e : (zs.map (·.1)).map (fun a => (a, f a)) = zs := by
    rw [List.map_map]
    conv => rhs; rw [← List.map_id zs]
    refine List.map_congr_left fun z hz => ?_
    have := ho z hz
    show (z.1, f z.1) = z
    have e2 : f z.1 = z.2 := by
      show (match H z.1 with | some (.tup [.int x, .int y]) => (x, y) | _ => (0, 0)) = z.2
      rw [this]
    rw [e2]
  refine ⟨as.map fun a => (a, f a), ?_, ?_⟩
  · have := h.map (fun a => (a, f a))
    rw [e] at this
    exact this
  · rw [List.map_map]
    exact (List.map_id as).symm
theorem sort_of {K : PySem.W.Frag} {H : Hp} {l : Addr} {zs : Zs} {Q : VK} (hl : H l = some (.lst (zr zs))) (ho : PO H zs) (hz : zs.length ≤ 4096) (q : ∀ (D : Addr) (zs' : Zs), H D = none → zs'.Perm zs → Q (.ref D) (upd H D (.lst (zr zs')))) : rSortA K [.ref l] H Q := by
  refine ⟨l, zs.map (·.1), rfl, SqL.of (by rw [← zr_refs]; exact hl), fun a ha => ?_, by rw [List.length_map]; exact hz, fun D as' hD hp => ?_⟩
  · obtain ⟨z, hz, rfl⟩ := List.mem_map.mp ha
    exact ⟨_, _, SqT.of (ho z hz)⟩
  · obtain ⟨zs', h1, rfl⟩ := perm_lift ho hp
    rw [← zr_refs]
    exact q D zs' hD h1
theorem comp_mkR {lo : Int} {n : Nat} {D : Addr} {g : TG} {tt : TT} {te : TE} {fin : Hp → Prop} {σB : St} {H0 : Hp} (F : Nat → Int × Int) (shape : St → Prop) (hD : H0 D = none) (hn : n ≤ 100000) (h0 : shape σB)
    (hs : ∀ i σ H (R : V → St → Hp → Prop) (Kf : St → Hp → Prop), i < n → shape σ → Same H0 H → (∀ σ2 p, shape σ2 → H p = none → R (.ref p) σ2 (upd H p (prT (F i)))) → g (.int (lo + i)) σ H fun σ2 H2 => tt σ2 H2 fun b H3 => if b = true then te σ2 H3 fun v H4 => R v σ2 H4 else Kf σ2 H3)
    (hd : ∀ zs H, Same H0 H → H D = some (.lst (zr zs)) → PO H zs → zp zs = (List.range n).map F → fin H) : CompW (Itr lo n) g tt te D fin σB (upd H0 D (.lst [])) := by
  refine comp_range (fun i ys σ H => shape σ ∧ Same H0 H ∧ H D = some (.lst ys) ∧ ∃ zs : Zs, ys = zr zs ∧ PO H zs ∧ zp zs = (List.range i).map F) ⟨h0, same_new hD, upd_same, [], rfl, PO.nil, rfl⟩ ?_ ?_
  · rintro i ys σ H Kt Kf hi ⟨sh, sm, hDl, zs, rfl, po, ep⟩ kt kf
    have hl : zs.length = i := by rw [← zp_len, ep, List.length_map, List.length_range]
    refine hs i σ H Kt Kf hi sh sm (fun σ2 p sh2 hp => ?_)
    · have nD : D ≠ p := ne_of_none hDl hp
      refine kt _ _ _ (by rw [upd_ne nD]; exact hDl) (by rw [zr_len, hl]; exact Nat.lt_of_lt_of_le hi (Nat.le_trans hn (by decide))) ⟨sh2, same_put (sm.trans (same_new hp)) hD, upd_same, zs ++ [(p, F i)], ?_, ?_, ?_⟩
      · rw [zr_append]; rfl
      · refine PO.putL (xs := zr zs) ?_ (by rw [upd_ne nD]; exact hDl)
        exact (po.putN hp).append (PO.one upd_same)
      · rw [zp_append, ep, List.range_succ, List.map_append]; rfl
  · rintro ys σ H ⟨_, sm, hDl, zs, rfl, po, ep⟩
    exact hd zs H sm hDl po ep
theorem comp_mkP {K : PySem.W.Frag} {a D : Addr} {zs0 : Zs} {g : TG} {tt : TT} {te : TE} {fin : Hp → Prop} {σB : St} {H0 : Hp} (F : Int × Int → Int × Int) (shape : St → Prop) (ha : H0 a = some (.lst (zr zs0))) (hp0 : PO H0 zs0) (hD : H0 D = none) (hn : zs0.length ≤ 100000) (h0 : shape σB)
    (hs : ∀ z σ H (R : V → St → Hp → Prop) (Kf : St → Hp → Prop), z ∈ zs0 → shape σ → H z.1 = some (prT z.2) → (∀ σ2 p, shape σ2 → H p = none → R (.ref p) σ2 (upd H p (prT (F z.2)))) → g (.ref z.1) σ H fun σ2 H2 => tt σ2 H2 fun b H3 => if b = true then te σ2 H3 fun v H4 => R v σ2 H4 else Kf σ2 H3)
    (hd : ∀ zs H, Same H0 H → H D = some (.lst (zr zs)) → PO H zs → zp zs = (zp zs0).map F → fin H) : CompW (Itl K a) g tt te D fin σB (upd H0 D (.lst [])) := by
  refine comp_list (xs := zr zs0) (fun i ys σ H => shape σ ∧ Same H0 H ∧ H D = some (.lst ys) ∧ ∃ zs : Zs, ys = zr zs ∧ PO H zs ∧ zp zs = ((zp zs0).take i).map F) ⟨h0, same_new hD, upd_same, [], rfl, PO.nil, rfl⟩ (fun i ys σ H _ z => SqL.of (z.2.1 _ _ ha)) ?_ ?_
  · rintro i x ys σ H Kt Kf hx ⟨sh, sm, hDl, zs, rfl, po, ep⟩ kt kf
    obtain ⟨z, hz, rfl⟩ := zr_get hx
    have hi : i < zs0.length := (List.getElem?_eq_some_iff.mp hz).1
    have hzm : z ∈ zs0 := List.mem_of_getElem? hz
    have hl : zs.length = i := by rw [← zp_len, ep, List.length_map, List.length_take, zp_len]; omega
    refine hs z σ H Kt Kf hzm sh (sm _ _ (hp0 z hzm)) (fun σ2 p sh2 hp => ?_)
    · have nD : D ≠ p := ne_of_none hDl hp
      refine kt _ _ _ (by rw [upd_ne nD]; exact hDl) (by rw [zr_len, hl]; exact Nat.lt_of_lt_of_le hi (Nat.le_trans hn (by decide))) ⟨sh2, same_put (sm.trans (same_new hp)) hD, upd_same, zs ++ [(p, F z.2)], ?_, ?_, ?_⟩
      · rw [zr_append]; rfl
      · refine PO.putL (xs := zr zs) ?_ (by rw [upd_ne nD]; exact hDl)
        exact (po.putN hp).append (PO.one upd_same)
      · have e2 : (zp zs0)[i]? = some z.2 := by unfold zp; rw [List.getElem?_map, hz]; rfl
        rw [zp_append, ep, List.take_add_one, e2, Option.toList_some, List.map_append]; rfl
  · rintro ys σ H ⟨_, sm, hDl, zs, rfl, po, ep⟩
    rw [zr_len, ← zp_len, List.take_length] at ep
    exact hd zs H sm hDl po ep
end K12
namespace K12
open PySem L2
open NetM
abbrev sInit : Stmt := inClass (top 25) 0
abbrev sOut : Stmt := inClass (top 25) 3
abbrev sFar : Stmt := inClass (top 25) 4
abbrev sSpan : Stmt := inClass (top 25) 5
abbrev sGood : Stmt := inClass (top 25) 6
abbrev sCheck : Stmt := inClass (top 25) 8
structure Er (K : PySem.W.Frag) (mg : Str → Option Value) (x : Str) (C : Addr) : Prop where
  at_ : mg x = some (.ref C)
  ok : ECls K C
theorem n12 : ¬ (("house_count" : Str) = "tie_list") := by decide +kernel
theorem n13 : ¬ (("house_count" : Str) = "out_lists") := by decide +kernel
theorem n14 : ¬ (("house_count" : Str) = "distances") := by decide +kernel
theorem n34 : ¬ (("out_lists" : Str) = "distances") := by decide +kernel
def flds (n : Int) (tl ol ds : Addr) : List (Str × V) := putF "distances" (.ref ds) (putF "out_lists" (.ref ol) (putF "tie_list" (.ref tl) (putF "house_count" (.int n) [])))
theorem flds_hc (n : Int) (tl ol ds : Addr) : (flds n tl ol ds).lookup ("house_count" : Str) = some (.int n) := by
  unfold flds
  rw [lookup_putF, if_neg n14, lookup_putF, if_neg n13, lookup_putF, if_neg n12, lookup_putF, if_pos rfl]
theorem flds_no (n : Int) (tl ol ds : Addr) {m : Str} (h1 : ¬ m = "house_count") (h2 : ¬ m = "tie_list") (h3 : ¬ m = "out_lists") (h4 : ¬ m = "distances") : (flds n tl ol ds).lookup m = none := by
  unfold flds
  rw [lookup_putF, if_neg h4, lookup_putF, if_neg h3, lookup_putF, if_neg h2, lookup_putF, if_neg h1]
  all_goals rfl
theorem flds_ol (n : Int) (tl ol ds : Addr) : (flds n tl ol ds).lookup ("out_lists" : Str) = some (.ref ol) := by
  unfold flds
  rw [lookup_putF, if_neg n34, lookup_putF, if_pos rfl]
theorem flds_ds (n : Int) (tl ol ds : Addr) : (flds n tl ol ds).lookup ("distances" : Str) = some (.ref ds) := by
  unfold flds
  rw [lookup_putF, if_pos rfl]
def RowsAt (H : Hp) (L : Addr → Prop) (l : Addr) (n : Nat) (r : Nat → List Nat) : Prop := ∃ bs : List Addr, H l = some (.lst (bs.map V.ref)) ∧ (∀ b ∈ bs, L b) ∧ Holds H bs n (fun h => .lst (NV (r h)))
theorem RowsAt.keep {H H' : Hp} {L : Addr → Prop} {l : Addr} {n : Nat} {r : Nat → List Nat} (R : RowsAt H L l n r) (hl : L l) (k : ∀ b o, L b → H b = some o → H' b = some o) : RowsAt H' L l n r :=
  let ⟨bs, a, b, c⟩ := R
  ⟨bs, k _ _ hl a, b, c.mono fun j hj e => k _ _ (b _ (by rw [List.getD_eq_getElem?_getD, List.getElem?_eq_getElem (by rw [c.1]; exact hj)]; exact List.getElem_mem _)) e⟩
theorem RowsAt.row {H : Hp} {L : Addr → Prop} {l : Addr} {n : Nat} {r : Nat → List Nat} (R : RowsAt H L l n r) {h : Nat} (hh : h < n) : ∃ (bs : List Addr) (b : Addr), H l = some (.lst (bs.map V.ref)) ∧ (bs.map V.ref)[h]? = some (V.ref b) ∧ H b = some (.lst (NV (r h))) ∧ L b := by
  obtain ⟨bs, a, b, c⟩ := R
  have hl : h < bs.length := by rw [c.1]; exact hh
  refine ⟨bs, bs[h], a, by rw [List.getElem?_map, List.getElem?_eq_getElem hl]; rfl, ?_, b _ (List.getElem_mem _)⟩
  have := c.2 h hh
  rw [List.getD_eq_getElem?_getD, List.getElem?_eq_getElem hl] at this
  exact this
structure NetAt (C : Addr) (H : Hp) (L : Addr → Prop) (p : Addr) (n : Nat) (ts : Ts) : Prop where
  fine : Fine n ts
  ob : ∃ dx tl ol ds, H p = some (.ins C dx (flds n tl ol ds)) ∧ L ol ∧ L ds ∧ RowsAt H L ol n (outN n ts) ∧ RowsAt H L ds n (fun h => (List.range n).map (far ts h))
theorem NetAt.keep {C : Addr} {H H' : Hp} {L : Addr → Prop} {p : Addr} {n : Nat} {ts : Ts} (N : NetAt C H L p n ts) (k : ∀ b o, L b → H b = some o → H' b = some o) (kp : ∀ o, H p = some o → H' p = some o) : NetAt C H' L p n ts :=
  let ⟨dx, tl, ol, ds, a, l1, l2, b, c⟩ := N.ob
  ⟨N.fine, dx, tl, ol, ds, kp _ a, l1, l2, b.keep l1 k, c.keep l2 k⟩
theorem NetAt.same {C : Addr} {H H' : Hp} {L : Addr → Prop} {p : Addr} {n : Nat} {ts : Ts} (N : NetAt C H L p n ts) (s : Same H H') : NetAt C H' L p n ts := N.keep (fun b o _ e => s b o e) (fun o e => s _ o e)
structure NT (K : PySem.W.Frag) (mg : Str → Option Value) (C : Addr) : Prop where
  cl : Cls K C
  nH : NoAttr K C "house_count"
  nT : NoAttr K C "tie_list"
  nO : NoAttr K C "out_lists"
  nD : NoAttr K C "distances"
  mgC : mg "Net" = some (.ref C)
structure MCal (P : Program) (w : World) (K : PySem.W.Frag) (mg : Str → Option Value) (base : Heap) (CX : CXT) (k : Nat) (C : Addr) (x : Str) (ps : List Str) (sp : Sp) : Prop where
  ex : ∃ f fd, Meth K C x f ∧ Binds K fd ps [] ∧ FnOk P w K mg base CX k f fd ps sp
section
variable {P : Program} {w : World} {K : PySem.W.Frag} {mg : Str → Option Value} {base : Heap}
theorem scCheck : FnScope ["self", "thing"] ["self", "thing"] (defScope sCheck) := ⟨rfl, rfl, rfl, by decide +kernel, rfl, by decide +kernel, by decide +kernel⟩
def spCheck (K : PySem.W.Frag) (C CE : Addr) : Sp := fun vs H Q E => ∃ (L : Addr → Prop) (p : Addr) (n : Nat) (ts : Ts) (x : V) (o : Option Int), vs = [.ref p, x] ∧ NetAt C H L p n ts ∧ Wh K H x o ∧ (within o 0 ((n : Int) - 1) = false → E (.ref CE) none H) ∧ (within o 0 ((n : Int) - 1) = true → Q .non H)
theorem ok_check {f C CE : Addr} {fd : FuncData} (F : Fun K "check_house" "Net.check_house" sCheck f fd) (T : NT K mg C) (e : Er K mg "NoHouse" CE) (HH : Cal P w K mg base CX0 3 "is_house" ["many", "thing"] (spHouse K)) :
    FnOk P w K mg base (CXf P w) 4 f fd ["self", "thing"] (spCheck K C CE) := by
  refine F.okX scCheck (fun vs H Q E h => ?_) (fun cdv A outer s H vs Q E hr h => ?_)
  · obtain ⟨L, p, n, ts, x, o, rfl, _⟩ := h
    rfl
  · obtain ⟨L, p, n, ts, x, o, rfl, N, wh, k1, k2⟩ := h
    obtain ⟨dx, tl, ol, ds, h1, _⟩ := N.ob
    refine ⟨_, pss_one (ps_if (pt_not (pt_val (pe_cal HH hr pass0 (pa_cons (pe_fld (pv 0) rfl) (pa_cons (pv 1) pa_nil))))) (pss_one (ps_raise (q := fun H1 => E (.ref CE) none H1) rfl e.ok rfl e.at_ (pa_cons pe_str pa_nil) (fun _ _ _ _ _ _ _ I m q => raise_xe I m q))) pss_nil), ?_⟩
    refine ⟨_, rfl, p, C, dx, _, _, rfl, h1, T.cl, T.nH, flds_hc _ _ _ _, _, rfl, x, o, n, rfl, wh, _, rfl, ?_⟩
    cases hw : within o 0 ((n : Int) - 1) with
    | false => exact iteT ⟨by show 1 ≤ sizeLine; decide, k1 hw⟩
    | true => exact iteF (k2 hw)
theorem nchk (n : Int) (tl ol ds : Addr) : (flds n tl ol ds).lookup ("check_house" : Str) = none := flds_no n tl ol ds (by decide +kernel) (by decide +kernel) (by decide +kernel) (by decide +kernel)
theorem nfar (n : Int) (tl ol ds : Addr) : (flds n tl ol ds).lookup ("far" : Str) = none := flds_no n tl ol ds (by decide +kernel) (by decide +kernel) (by decide +kernel) (by decide +kernel)
theorem nv_get {xs : List Nat} {i : Nat} (h : i < xs.length) : (NV xs)[i]? = some (.int ((xs[i] : Nat) : Int)) := by rw [List.getElem?_map, List.getElem?_eq_getElem h]; rfl
theorem nv_len {xs : List Nat} : (NV xs).length = xs.length := List.length_map _
theorem within_nat {o : Option Int} {n : Nat} (h : within o 0 ((n : Int) - 1) = true) : ∃ i : Nat, i < n ∧ o = some (i : Int) := by
  cases o with
  | none => cases h
  | some i =>
    unfold within at h
    simp at h
    exact ⟨i.toNat, by omega, by congr 1; omega⟩
theorem within_of {i n : Nat} (h : i < n) : within (some (i : Int)) 0 ((n : Int) - 1) = true := by unfold within; simp; omega
def spAsk (K : PySem.W.Frag) (C CE : Addr) (ans : Hp → Nat → Ts → Nat → VK → Prop) : Sp := fun vs H Q E => ∃ (L : Addr → Prop) (p : Addr) (n : Nat) (ts : Ts) (x : V) (o : Option Int), vs = [.ref p, x] ∧ NetAt C H L p n ts ∧ Wh K H x o ∧ (within o 0 ((n : Int) - 1) = false → E (.ref CE) none H) ∧ ∀ i : Nat, i < n → o = some (i : Int) → ans H n ts i Q
theorem scOut : FnScope ["self", "house"] ["self", "house"] (defScope sOut) := ⟨rfl, rfl, rfl, by decide +kernel, rfl, by decide +kernel, by decide +kernel⟩
def aOut : Hp → Nat → Ts → Nat → VK → Prop := fun H n ts i Q => ∀ r H', Same H H' → H r = none → H' r = some (.lst (NV (outN n ts i))) → Q (.ref r) H'
theorem wh_int {H : Hp} {x : V} {i : Int} (h : Wh K H x (some i)) : x = .int i := by cases h; rfl
theorem ok_out {f C CE : Addr} {fd : FuncData} (F : Fun K "out" "Net.out" sOut f fd) (T : NT K mg C) (B : Bl mg) (M : MCal P w K mg base (CXf P w) 4 C "check_house" ["self", "thing"] (spCheck K C CE)) :
    FnOk P w K mg base (CXf P w) 5 f fd ["self", "house"] (spAsk K C CE aOut) := by
  obtain ⟨fM, fdM, mM, bM, GM⟩ := M.ex
  refine F.okX scOut (fun vs H Q E h => ?_) (fun cdv A outer s H vs Q E hr h => ?_)
  · obtain ⟨L, p, n, ts, x, o, rfl, _⟩ := h
    rfl
  · obtain ⟨L, p, n, ts, x, o, rfl, N, wh, k1, k2⟩ := h
    obtain ⟨dx, tl, ol, ds, h1, _, _, R, _⟩ := N.ob
    refine ⟨_, pss_cons (ps_expr (pe_meth (pv 0) T.cl mM GM hr bM .nil (passX (E' := E) fun _ _ _ z => z) (pa_cons (pv 1) pa_nil)))
      (pss_one (ps_ret (pe_callTy call_list_of (by rfl) B.lst PyProof.Rows.boot_list (pa_cons (pe_ix ix_list (pe_fld (pv 0) rfl) (pv 1) (fun _ _ => rfl)) pa_nil)))), ?_⟩
    refine ⟨_, rfl, p, dx, _, rfl, h1, nchk _ _ _ _, _, rfl, L, p, n, ts, x, o, rfl, N, wh, k1, fun hw => ?_⟩
    obtain ⟨i, hi, rfl⟩ := within_nat hw
    obtain rfl := wh_int wh
    obtain ⟨bs, b, r1, r2, r3, _⟩ := R.row hi
    exact ⟨_, rfl, p, C, dx, _, _, rfl, h1, T.cl, T.nO, flds_ol _ _ _ _, _, rfl, ol, _, _, _, rfl, rfl, SqL.of r1, atI_nat r2, b, _, rfl, .inl (SqL.of r3), fun l hl => k2 i hi rfl l _ (same_new hl) hl upd_same⟩
theorem scFar : FnScope ["self", "one", "other"] ["self", "one", "other"] (defScope sFar) := ⟨rfl, rfl, rfl, by decide +kernel, rfl, by decide +kernel, by decide +kernel⟩
def spFar (K : PySem.W.Frag) (C CE : Addr) : Sp := fun vs H Q E => ∃ (L : Addr → Prop) (p : Addr) (n : Nat) (ts : Ts) (x : V) (o : Option Int) (y : V) (o' : Option Int), vs = [.ref p, x, y] ∧ NetAt C H L p n ts ∧ Wh K H x o ∧ Wh K H y o' ∧ (within o 0 ((n : Int) - 1) = false ∨ within o' 0 ((n : Int) - 1) = false → E (.ref CE) none H) ∧ ∀ i j : Nat, i < n → j < n → o = some (i : Int) → o' = some (j : Int) → Q (.int (far ts i j : Nat)) H
theorem ok_far {f C CE : Addr} {fd : FuncData} (F : Fun K "far" "Net.far" sFar f fd) (T : NT K mg C) (M : MCal P w K mg base (CXf P w) 4 C "check_house" ["self", "thing"] (spCheck K C CE)) :
    FnOk P w K mg base (CXf P w) 5 f fd ["self", "one", "other"] (spFar K C CE) := by
  obtain ⟨fM, fdM, mM, bM, GM⟩ := M.ex
  refine F.okX scFar (fun vs H Q E h => ?_) (fun cdv A outer s H vs Q E hr h => ?_)
  · obtain ⟨L, p, n, ts, x, o, y, o', rfl, _⟩ := h
    rfl
  · obtain ⟨L, p, n, ts, x, o, y, o', rfl, N, wh, wh', k1, k2⟩ := h
    obtain ⟨dx, tl, ol, ds, h1, _, _, _, R⟩ := N.ob
    refine ⟨_, pss_cons (ps_expr (pe_meth (pv 0) T.cl mM GM hr bM .nil (passX (E' := E) fun _ _ _ z => z) (pa_cons (pv 1) pa_nil)))
      (pss_cons (ps_expr (pe_meth (pv 0) T.cl mM GM hr bM .nil (passX (E' := E) fun _ _ _ z => z) (pa_cons (pv 2) pa_nil)))
      (pss_one (ps_ret (pe_ix ix_list (pe_ix ix_list (pe_fld (pv 0) rfl) (pv 1) (fun _ _ => rfl)) (pv 2) (fun _ _ => rfl))))), ?_⟩
    refine ⟨_, rfl, p, dx, _, rfl, h1, nchk _ _ _ _, _, rfl, L, p, n, ts, x, o, rfl, N, wh, fun z => k1 (.inl z), fun hw => ?_⟩
    refine ⟨_, rfl, p, dx, _, rfl, h1, nchk _ _ _ _, _, rfl, L, p, n, ts, y, o', rfl, N, wh', fun z => k1 (.inr z), fun hw' => ?_⟩
    obtain ⟨i, hi, rfl⟩ := within_nat hw
    obtain ⟨j, hj, rfl⟩ := within_nat hw'
    obtain rfl := wh_int wh
    obtain rfl := wh_int wh'
    obtain ⟨bs, b, r1, r2, r3, _⟩ := R.row hi
    have hg : (NV ((List.range n).map (far ts i)))[j]? = some (.int (far ts i j : Nat)) := by
      rw [List.getElem?_map, List.getElem?_map, List.getElem?_range hj]; rfl
    exact ⟨_, rfl, p, C, dx, _, _, rfl, h1, T.cl, T.nD, flds_ds _ _ _ _, _, rfl, ds, _, _, _, rfl, rfl, SqL.of r1, atI_nat r2, _, rfl, b, _, _, _, rfl, rfl, SqL.of r3, atI_nat hg, k2 i j hi hj rfl rfl⟩
end
end K12
namespace K12
open PySem L2 NetM
abbrev sCTies : Stmt := top 26
abbrev sTie : Stmt := top 27
abbrev sBal : Stmt := top 28
section
variable {P : Program} {w : World} {K : PySem.W.Frag} {mg : Str → Option Value} {base : Heap}
abbrev sUnl : Stmt := top 19
theorem scUnl : FnScope ["many", "one", "other"] ["many", "one", "other"] (defScope sUnl) := ⟨rfl, rfl, rfl, by decide +kernel, rfl, by decide +kernel, by decide +kernel⟩
def spUnl : Sp := fun vs H Q _ => ∃ (n a b : Int), vs = [.int n, .int a, .int b] ∧ 0 ≤ a ∧ a < n ∧ 0 ≤ b ∧ b < n ∧ a ≠ b ∧ Q (.bl true) H
theorem ok_unl {f : Addr} {fd : FuncData} (F : Fun K "are_unlike_houses" "are_unlike_houses" sUnl f fd) (HH : Cal P w K mg base CX0 3 "is_house" ["many", "thing"] (spHouse K)) :
    FnOk P w K mg base CX0 4 f fd ["many", "one", "other"] spUnl := by
  refine F.ok scUnl (fun vs H Q E h => ?_) (fun cdv A outer s H vs Q E hr h => ?_)
  · obtain ⟨n, a, b, rfl, _⟩ := h
    rfl
  · obtain ⟨n, a, b, rfl, a1, a2, b1, b2, hne, k⟩ := h
    refine ⟨_, pss_one (ps_ret (pe_and (pe_cal HH hr pass0 (pa_cons (pv 0) (pa_cons (pv 1) pa_nil))) (pe_and (pe_cal HH hr pass0 (pa_cons (pv 0) (pa_cons (pv 2) pa_nil))) (pe_one (pe_cmpR op_ne (pv 1) (pv 2) (nomark _)))))), ?_⟩
    refine ⟨_, rfl, _, rfl, _, _, n, rfl, .int a, _, rfl, ?_⟩
    rw [if_pos (show within (some a) 0 (n - 1) = true by unfold within; simp; omega)]
    refine ⟨_, rfl, _, rfl, _, _, n, rfl, .int b, _, rfl, ?_⟩
    rw [if_pos (show within (some b) 0 (n - 1) = true by unfold within; simp; omega)]
    refine ⟨_, rfl, _, rfl, rfl, ?_⟩
    have e : (!decide (V.int a = V.int b)) = true := by simp [hne]
    rw [e]
    exact k
theorem scTie : FnScope ["many", "thing"] ["many", "thing"] (defScope sTie) := ⟨rfl, rfl, rfl, by decide +kernel, rfl, by decide +kernel, by decide +kernel⟩
def spTie : Sp := fun vs H Q _ => ∃ (n : Int) (p : Addr) (a b : Int), vs = [.int n, .ref p] ∧ H p = some (.tup [.int a, .int b]) ∧ 0 ≤ a ∧ a < n ∧ 0 ≤ b ∧ b < n ∧ a ≠ b ∧ Q (.bl true) H
theorem ok_tie {f : Addr} {fd : FuncData} (F : Fun K "is_tie" "is_tie" sTie f fd) (R : Cal P w K mg base CX0 1 "is_row" ["thing", "length"] (spRow K)) (U : Cal P w K mg base CX0 4 "are_unlike_houses" ["many", "one", "other"] spUnl) :
    FnOk P w K mg base CX0 5 f fd ["many", "thing"] spTie := by
  refine F.ok scTie (fun vs H Q E h => ?_) (fun cdv A outer s H vs Q E hr h => ?_)
  · obtain ⟨n, p, a, b, rfl, _⟩ := h
    rfl
  · obtain ⟨n, p, a, b, rfl, hp, a1, a2, b1, b2, hne, k⟩ := h
    refine ⟨_, pss_one (ps_ret (pe_and (pe_cal R (hr.mono (by decide)) pass0 (pa_cons (pv 1) (pa_cons pe_int pa_nil)))
      (pe_one (pe_cal U hr pass0 (pa_cons (pv 0) (pa_cons (pe_ix ix_tup (pv 1) pe_int (fun _ _ => rfl)) (pa_cons (pe_ix ix_tup (pv 1) pe_int (fun _ _ => rfl)) pa_nil))))))), ?_⟩
    refine ⟨_, rfl, _, _, _, rfl, .tup hp, true, rfl, ?_⟩
    exact ⟨_, rfl, _, rfl, p, _, _, _, rfl, rfl, SqT.of hp, atI_nat (j := 0) rfl, _, rfl, p, _, _, _, rfl, rfl, SqT.of hp, atI_nat (j := 1) rfl, n, a, b, rfl, a1, a2, b1, b2, hne, k⟩
theorem scCTies : FnScope ["many", "ties", "tie"] ["many", "ties"] (defScope sCTies) := ⟨rfl, rfl, rfl, by decide +kernel, rfl, by decide +kernel, by decide +kernel⟩
theorem kit_list {K : PySem.W.Frag} : PySem.W.kitOne K (.type "list") (.type "list") = some true := by kernel_rfl
structure TiesAt (H : Hp) (l : Addr) (n : Nat) (zs : Zs) : Prop where
  fine : Fine n (zp zs)
  at_ : H l = some (.lst (zr zs))
  po : PO H zs
theorem TiesAt.same {H H' : Hp} {l : Addr} {n : Nat} {zs : Zs} (h : TiesAt H l n zs) (s : Same H H') : TiesAt H' l n zs := ⟨h.fine, s _ _ h.at_, h.po.same s⟩
def spCTies : Sp := fun vs H Q _ => ∃ (n : Nat) (l : Addr) (zs : Zs), vs = [.int n, .ref l] ∧ TiesAt H l n zs ∧ ∀ H', Same H H' → Q .non H'
theorem ok_cties {f : Addr} {fd : FuncData} (F : Fun K "check_ties" "check_ties" sCTies f fd) (B : Bl mg) (gF : ∃ t, mg "FEWEST_HOUSES" = some (.int 2 t)) (gM : ∃ t, mg "MOST_HOUSES" = some (.int 32 t))
    (W : Cal P w K mg base CX0 2 "is_whole_within" ["thing", "least", "most"] (spWithin K)) (T : Cal P w K mg base CX0 5 "is_tie" ["many", "thing"] spTie) :
    FnOk P w K mg base CX0 6 f fd ["many", "ties"] spCTies := by
  obtain ⟨tF, gF⟩ := gF
  obtain ⟨tM, gM⟩ := gM
  refine F.ok scCTies (fun vs H Q E h => ?_) (fun cdv A outer s H vs Q E hr h => ?_)
  · obtain ⟨n, l, zs, rfl, _⟩ := h
    rfl
  · refine ⟨_, pss_cons (ps_if (pt_not (pt_val (pe_cal W (hr.mono (by decide)) pass0 (pa_cons (pv 0) (pa_cons (pe_glob (v := .int 2) rfl gF ⟨_, rfl⟩) (pa_cons (pe_glob (v := .int 32) rfl gM ⟨_, rfl⟩) pa_nil)))))) pss_never pss_nil)
      (pss_cons (ps_if (pt_not (pt_val (pe_callB call_isi (by rfl) B.isi PyProof.Rows.boot_isinstance (pa_cons (pv 1) (pa_cons (pe_bltn (v := .ty "list") rfl B.lst PyProof.Rows.boot_list rfl) pa_nil))))) pss_never pss_nil)
      (pss_cons (ps_for PassesOwn.never rfl (pi_list (pv 1)) (pg_name (i := 2) scCTies.nd rfl (Or.inl rfl)) (pss_one (ps_if (pt_not (pt_val (pe_cal T hr pass0 (pa_cons (pv 0) (pa_cons (pv 2) pa_nil))))) pss_never pss_nil)))
      (pss_one (ps_if (pt_cmpR op_ne (pe_callB call_lenSet (by rfl) B.len PySem.boot_len (pa_cons (pe_callTy (call_setP rfl (by have := hr.un; show (A.deeper _).units + 8 < _; omega)) (by rfl) B.set PyProof.Rows.boot_set (pa_cons (pv 1) pa_nil)) pa_nil)) (pe_callB call_len_seq (by rfl) B.len PySem.boot_len (pa_cons (pv 1) pa_nil)) (nomark _)) pss_never pss_nil)))), ?_⟩
    obtain ⟨n, l, zs, rfl, tt, k⟩ := h
    obtain ⟨fi, hl, po⟩ := id tt
    have n1 := fi.n1
    have n2 := fi.n2
    refine ⟨_, rfl, _, _, 2, 32, rfl, .int n, _, rfl, ?_⟩
    rw [show within (some (n : Int)) 2 32 = true by unfold within; simp; omega]
    refine iteF ?_
    refine ⟨_, rfl, _, _, _, .type "list", true, rfl, ⟨rfl, kit_list⟩, .of (.lst hl), _, rfl, iteF ?_⟩
    refine ⟨_, rfl, l, rfl, ⟨_, SqL.of hl⟩, for_list (K := K) (a := l) (xs := zr zs) (fun i σ H2 => H2 = H ∧ ∃ v, σ = [some (.int n), some (.ref l), v]) ⟨rfl, none, rfl⟩ (fun i σ H2 _ ⟨e, _⟩ => by rw [e]; exact SqL.of hl) ?_ ?_⟩
    · rintro i x σ H2 hx ⟨rfl, v, rfl⟩
      obtain ⟨z, hz, rfl⟩ := zr_get hx
      have hzm : z ∈ zs := List.mem_of_getElem? hz
      have hzp : z.2 ∈ zp zs := List.mem_map.mpr ⟨z, hzm, rfl⟩
      have r := fi.rg _ hzp
      exact ⟨_, rfl, _, rfl, n, _, _, _, rfl, po z hzm, r.1.1, r.1.2, r.2.1, r.2.2, fi.ne _ hzp, _, rfl, iteF ⟨rfl, _, rfl⟩⟩
    · rintro σ H2 ⟨rfl, v, rfl⟩
      have hlen : (zp zs).length ≤ 256 := fi.len
      refine ⟨_, rfl, l, zs.map (·.1), zp zs, rfl, SqL.of (by rw [← zr_refs]; exact hl), by rw [List.length_map, zp_len], fun i hi => ?_, fi.nd, fun y hy => ?_, by omega, fun D hD => ?_⟩
      · rw [zp_len] at hi
        rw [getD_fst hi, getD_zp hi]
        exact SqT.of (po _ (List.getElem_mem hi))
      · have r := fi.rg _ hy
        omega
      · have nl : l ≠ D := ne_of_none hl hD
        refine ⟨D, _, rfl, upd_same, by omega, _, rfl, l, zr zs, rfl, .inl (SqL.of (by rw [upd_ne nl]; exact hl)), rfl, _, rfl, ?_⟩
        have ez : (!decide (V.int (((zp zs).length : Nat) : Int) = V.int (((zr zs).length : Nat) : Int))) = false := by rw [zp_len, zr_len]; simp
        rw [ez]
        exact iteF (k _ (same_new hD))
end
end K12
namespace K12
open PySem L2 NetM
abbrev sOuts : Stmt := top 29
section
variable {P : Program} {w : World} {K : PySem.W.Frag} {mg : Str → Option Value} {base : Heap}
theorem ties_comp {zs : Zs} {l D : Addr} {H : Hp} {g : TG} {tt : TT} {te : TE} {fin : Hp → Prop} {σB : St} (S : St → Prop) (p q : Int × Int → Int) (h : Int) (hD : H D = none) (hl : H l = some (.lst (zr zs))) (po : PO H zs) (hn : zs.length ≤ 1000) (s0 : S σB)
    (hg : ∀ z σ H2 (Kt : V → St → Hp → Prop) (Kf : St → Hp → Prop), z ∈ zs → S σ → H2 z.1 = some (prT z.2) → (∀ σ2, S σ2 → p z.2 = h → Kt (.int (q z.2)) σ2 H2) → (∀ σ2, S σ2 → p z.2 ≠ h → Kf σ2 H2) →
      g (.ref z.1) σ H2 fun σ2 H2 => tt σ2 H2 fun b H3 => if b = true then te σ2 H3 fun v H4 => Kt v σ2 H4 else Kf σ2 H3)
    (hd : fin (upd H D (.lst (IV (((zp zs).filter fun y => decide (p y = h)).map q))))) : CompW (Itl K l) g tt te D fin σB (upd H D (.lst [])) := by
  have nl : l ≠ D := ne_of_none hl hD
  have tk : ∀ {i : Nat} {z : Addr × (Int × Int)}, zs[i]? = some z → (zp zs).take (i + 1) = (zp zs).take i ++ [z.2] := fun {i z} hz => by
    rw [List.take_add_one, show (zp zs)[i]? = some z.2 by unfold zp; rw [List.getElem?_map, hz]; rfl]; rfl
  refine comp_list (xs := zr zs) (fun i ys σ H2 => S σ ∧ ys = IV ((((zp zs).take i).filter fun y => decide (p y = h)).map q) ∧ H2 = upd H D (.lst ys)) ⟨s0, by simp, rfl⟩ (fun i ys σ H2 _ ⟨_, _, e⟩ => by rw [e]; exact SqL.of (by rw [upd_ne nl]; exact hl)) ?_ ?_
  · rintro i x ys σ H2 Kt Kf hx ⟨hS, ey, rfl⟩ kt kf
    obtain ⟨z, hz, rfl⟩ := zr_get hx
    have hzm : z ∈ zs := List.mem_of_getElem? hz
    have hp := po z hzm
    have na : z.1 ≠ D := ne_of_none hp hD
    have hi : i < zs.length := (List.getElem?_eq_some_iff.mp hz).1
    refine hg z σ _ Kt Kf hzm hS (by rw [upd_ne na]; exact hp) (fun σ2 s2 e => ?_) (fun σ2 s2 e => ?_)
    · refine kt _ _ _ upd_same ?_ ⟨s2, ?_, ?_⟩
      · rw [ey, List.length_map, List.length_map]
        exact Nat.lt_of_le_of_lt (List.length_filter_le _ _) (Nat.lt_of_le_of_lt (List.length_take_le _ _) (Nat.lt_of_lt_of_le (show i < 1000 by omega) (by decide)))
      · rw [ey, tk hz, List.filter_append, List.map_append]
        have : decide (p z.2 = h) = true := by simp [e]
        simp [List.filter_cons, this]
      · rw [upd_upd]
    · refine kf _ _ ⟨s2, ?_, rfl⟩
      have : decide (p z.2 = h) = false := by simp [e]
      rw [ey, tk hz, List.filter_append]
      simp [List.filter_cons, this]
  · rintro ys σ H2 ⟨_, ey, rfl⟩
    rw [zr_len, ← zp_len, List.take_length] at ey
    rw [ey]
    exact hd
theorem nb3 : (["one", "other", "house"] : List Str).Nodup := by decide +kernel
theorem scBal : FnScope ["many", "ties", "house", "leading_out", "leading_in"] ["many", "ties"] (defScope sBal) := ⟨rfl, rfl, rfl, by decide +kernel, rfl, by decide +kernel, by decide +kernel⟩
theorem ok_bal {f : Addr} {fd : FuncData} (F : Fun K "check_balance" "check_balance" sBal f fd) (B : Bl mg) (gM : ∃ t, mg "MOST_TIES_OUT" = some (.int 8 t)) :
    FnOk P w K mg base CX0 1 f fd ["many", "ties"] spCTies := by
  obtain ⟨tM, gM⟩ := gM
  refine F.ok scBal (fun vs H Q E h => ?_) (fun cdv A outer s H vs Q E hr h => ?_)
  · obtain ⟨n, l, zs, rfl, _⟩ := h
    rfl
  · obtain ⟨n, l, zs, rfl, T, k⟩ := h
    have fi := T.fine
    have n1 := fi.n1
    have n2 := fi.n2
    have hlen : zs.length ≤ 256 := by have := fi.len; rw [zp_len] at this; exact this
    refine' ⟨_, pss_one (ps_for PassesOwn.never rfl (pi_range1 rfl B.range (pa_cons (pv 0) pa_nil)) (pg_name (i := 2) scBal.nd rfl (Or.inr rfl))
      (pss_cons (ps_set (i := 3) scBal.nd rfl (Or.inl rfl) (pe_callB call_len_seq (by rfl) B.len PySem.boot_len (pa_cons ?c1 pa_nil)))
      (pss_cons (ps_set (i := 4) scBal.nd rfl (Or.inl rfl) (pe_callB call_len_seq (by rfl) B.len PySem.boot_len (pa_cons ?c2 pa_nil)))
      (pss_cons (ps_if (pt_cmpR op_ne (pv 3) (pv 4) (nomark _)) pss_never pss_nil)
      (pss_one (ps_if (pt_cmpR op_gt (pv 3) (pe_glob (v := .int 8) rfl gM ⟨_, rfl⟩) (nomark _)) pss_never pss_nil)))))), ?_⟩
    case c1 =>
      refine' pe_comp (g := gTup K 2 (gCons (gName 0) (gCons (gName 1) gNil))) (NB := ["one", "other", "house"]) (src := [none, none, some 2]) (blk_of (by kernel_rfl)) rfl (pi_list (pv 1)) ?g ?t ?e
      case g => exact fun cl C s₃ H₃ fp => pg_tup (n := 2) rfl (pgs_cons (pg_name (i := 0) nb3 rfl (Or.inl rfl) (Or.inr rfl)) (pgs_cons (pg_name (i := 1) nb3 rfl (Or.inl rfl) (Or.inr rfl)) pgs_nil))
      case t => exact fun cl C s₃ H₃ fp => pts_one (pt_cmpR op_eq (pv 0) (pv 2) (nomark _))
      case e => exact fun cl C s₃ H₃ fp => pv 0
    case c2 =>
      refine' pe_comp (g := gTup K 2 (gCons (gName 0) (gCons (gName 1) gNil))) (NB := ["one", "other", "house"]) (src := [none, none, some 2]) (blk_of (by kernel_rfl)) rfl (pi_list (pv 1)) ?g ?t ?e
      case g => exact fun cl C s₃ H₃ fp => pg_tup (n := 2) rfl (pgs_cons (pg_name (i := 0) nb3 rfl (Or.inl rfl) (Or.inr rfl)) (pgs_cons (pg_name (i := 1) nb3 rfl (Or.inl rfl) (Or.inr rfl)) pgs_nil))
      case t => exact fun cl C s₃ H₃ fp => pts_one (pt_cmpR op_eq (pv 1) (pv 2) (nomark _))
      case e => exact fun cl C s₃ H₃ fp => pv 1
    refine ⟨_, rfl, n, rfl, by omega, by omega, for_range (n := n) (lo := 0) (fun i σ H2 => Same H H2 ∧ ∃ a b c, σ = [some (.int n), some (.ref l), a, b, c]) ⟨Same.refl _, none, none, none, rfl⟩ ?_ ?_⟩
    · rintro i σ H2 hi ⟨sm, a, b, c, rfl⟩
      have T2 := T.same sm
      refine ⟨_, rfl, l, rfl, ⟨_, SqL.of T2.at_⟩, fun D hD => ties_comp (fun σ => ∃ a b, σ = [a, b, some (.int (0 + (i : Int)))]) (·.1) (·.1) (0 + (i : Int)) hD T2.at_ T2.po (by omega) ⟨_, _, rfl⟩ ?_ ?_⟩
      · rintro z σ H3 Kt Kf hj ⟨x, y, rfl⟩ ha kt kf
        refine ⟨z.1, _, rfl, SqT.of ha, rfl, _, _, rfl, _, _, rfl, rfl, ?_⟩
        refine ⟨_, rfl, _, rfl, rfl, _, rfl, ?_⟩
        refine ite2 (fun e => ?_) (fun e => ?_)
        · exact ⟨_, rfl, kt _ ⟨_, _, rfl⟩ (by simpa using e)⟩
        · exact kf _ ⟨_, _, rfl⟩ (by simpa using e)
      · refine ⟨D, _, rfl, .inl (SqL.of upd_same), ?_⟩
        have sm2 := same_put (o := .lst (IV (((zp zs).filter fun y => decide (y.1 = 0 + (i : Int))).map (·.1)))) (sm.trans (Same.refl _)) (H := H) (by cases z : H D with | none => rfl | some o => rw [sm _ _ z] at hD; cases hD)
        have T3 := T.same sm2
        refine ⟨_, rfl, l, rfl, ⟨_, SqL.of T3.at_⟩, fun D' hD' => ties_comp (fun σ => ∃ a b, σ = [a, b, some (.int (0 + (i : Int)))]) (·.2) (·.2) (0 + (i : Int)) hD' T3.at_ T3.po (by omega) ⟨_, _, rfl⟩ ?_ ?_⟩
        · rintro z σ H3 Kt Kf hj ⟨x, y, rfl⟩ ha kt kf
          refine ⟨z.1, _, rfl, SqT.of ha, rfl, _, _, rfl, _, _, rfl, rfl, ?_⟩
          refine ⟨_, rfl, _, rfl, rfl, _, rfl, ?_⟩
          refine ite2 (fun e => ?_) (fun e => ?_)
          · exact ⟨_, rfl, kt _ ⟨_, _, rfl⟩ (by simpa using e)⟩
          · exact kf _ ⟨_, _, rfl⟩ (by simpa using e)
        · refine ⟨D', _, rfl, .inl (SqL.of upd_same), ?_⟩
          rw [Int.zero_add] at *
          have q1 : (IV (((zp zs).filter fun y => decide (y.1 = (i : Int))).map (·.1))).length = (IV (((zp zs).filter fun y => decide (y.2 = (i : Int))).map (·.2))).length := by
            rw [List.length_map, List.length_map, List.length_map, List.length_map]; exact fi.bal i
          have q2 : (IV (((zp zs).filter fun y => decide (y.1 = (i : Int))).map (·.1))).length ≤ 8 := by
            rw [List.length_map, List.length_map]; exact fi.most i
          refine ⟨_, rfl, _, rfl, rfl, _, rfl, ?_⟩
          rw [← q1]
          rw [show (!decide (V.int (((IV (((zp zs).filter fun y => decide (y.1 = (i : Int))).map (·.1))).length : Nat) : Int) = V.int (((IV (((zp zs).filter fun y => decide (y.1 = (i : Int))).map (·.1))).length : Nat) : Int))) = false by simp]
          refine iteF ?_
          refine ⟨_, rfl, _, _, rfl, rfl, _, rfl, ?_⟩
          rw [show decide ((((IV (((zp zs).filter fun y => decide (y.1 = (i : Int))).map (·.1))).length : Nat) : Int) > 8) = false by rw [decide_eq_false_iff_not]; omega]
          exact iteF ⟨sm2.trans (same_new hD'), _, _, _, rfl⟩
    · rintro σ H2 ⟨sm, a, b, c, rfl⟩
      exact k H2 sm
end
end K12
namespace K12
open PySem L2 NetM
def lamE : Expr := match (defBody sOuts).getD 1 (.Pass ⟨0, 0, 0, 0⟩) with
  | .Return (some (.Call _ _ (k :: _) _)) _ => k.value
  | _ => .Name "x" ⟨0, 0, 0, 0⟩
def lamArgs : Arguments := match lamE with
  | .Lambda a _ _ _ => a
  | _ => { posonlyargs := [], args := [], vararg := none, kwonlyargs := [], kw_defaults := [], kwarg := none, defaults := [] }
def lamBody : Expr := match lamE with
  | .Lambda _ b _ _ => b
  | e => e
def lamSc : Scope := match lamE with
  | .Lambda _ _ s _ => s
  | _ => { kind := .function, names := [], isGenerator := false, isCoroutine := false }
def lamPos : Pos := match lamE with
  | .Lambda _ _ _ p => p
  | _ => ⟨0, 0, 0, 0⟩
def outsQ : Str := ("houses_out" : Str) ++ ".<locals>." ++ "<lambda>"
abbrev Tab (Pt : Addr) (H : Hp) : Prop := TabAt lamPos outsQ Pt H
def SameT (Pt : Addr) (H H' : Hp) : Prop := ∀ b o, H b = some o → b ≠ Pt → H' b = some o
theorem SameT.of {Pt : Addr} {H H' : Hp} (a : Same H H') : SameT Pt H H' := fun c o h _ => a c o h
theorem Tab.not {Pt : Addr} {H : Hp} (t : Tab Pt H) {b : Addr} {o : HO} (h : H b = some o) (n : ∀ ps, o ≠ .tbl ps) : b ≠ Pt := by
  rintro rfl
  rcases t with z | ⟨c, z, _⟩ <;> · rw [h] at z; exact n _ (Option.some.inj z)
theorem Tab.same {Pt : Addr} {H H' : Hp} (t : Tab Pt H) (e : Same H H') : Tab Pt H' := by
  rcases t with z | ⟨c, z, y⟩
  · exact .inl (e _ _ z)
  · exact .inr ⟨c, e _ _ z, e _ _ y⟩
theorem key_inj {n a b h : Int} (hn : 0 < n) (a0 : 0 ≤ a) (a1 : a < n) (b0 : 0 ≤ b) (b1 : b < n) (e : (a - h) % n = (b - h) % n) : a = b := by
  have h1 := Int.emod_emod_of_dvd (a - h) (Int.dvd_refl n)
  have q : (a - b) % n = 0 := by
    have : a - b = (a - h) - (b - h) := by omega
    rw [this, Int.sub_emod, e, Int.sub_self, Int.zero_emod]
  obtain ⟨c, hc⟩ := Int.dvd_of_emod_eq_zero q
  have c0 : c = 0 := by
    rcases Int.lt_trichotomy c 0 with z | z | z
    · have : n * c ≤ n * (-1) := Int.mul_le_mul_of_nonneg_left (by omega) (by omega)
      omega
    · exact z
    · have : n * 1 ≤ n * c := Int.mul_le_mul_of_nonneg_left (by omega) (by omega)
      omega
  rw [c0] at hc
  omega
theorem nodup_map_snd {ts : Ts} {h : Int} (nd : ts.Nodup) : ((ts.filter fun y => decide (y.1 = h)).map (·.2)).Nodup := by
  refine L2.map_nodup (nd.filter _) fun x hx y hy e => ?_
  have a := (List.mem_filter.mp hx).2
  have b := (List.mem_filter.mp hy).2
  simp at a b
  exact Prod.ext (a.trans b.symm) e
theorem kOut_outN {n : Nat} {ts : Ts} {h : Nat} (F : Fine n ts) (hh : h < n) {out : List Int} (ko : KOut (h : Int) (n : Int) ((ts.filter fun y => decide (y.1 = (h : Int))).map (·.2)) out) : out.map V.int = NV (outN n ts h) := by
  obtain ⟨ps, hp, rfl, hs⟩ := ko
  have hout : (ps.map (·.2)).Perm ((ts.filter fun y => decide (y.1 = (h : Int))).map (·.2)) := by
    have := hp.map (·.2)
    rw [List.map_map] at this
    refine this.trans (List.Perm.of_eq ?_)
    conv => rhs; rw [← List.map_id ((ts.filter fun y => decide (y.1 = (h : Int))).map (·.2))]
    rfl
  have mem : ∀ z, z ∈ ps.map (·.2) ↔ ((h : Int), z) ∈ ts := fun z => by
    rw [hout.mem_iff, List.mem_map]
    constructor
    · rintro ⟨y, hy, rfl⟩
      obtain ⟨y1, y2⟩ := List.mem_filter.mp hy
      have : y.1 = (h : Int) := by simpa using y2
      rw [← this]; exact y1
    · intro hz
      exact ⟨_, List.mem_filter.mpr ⟨hz, by simp⟩, rfl⟩
  have nd : (ps.map (·.2)).Nodup := hout.nodup_iff.mpr (nodup_map_snd F.nd)
  have key : ∀ q ∈ ps, q.1 = (q.2 - (h : Int)) % (n : Int) := fun q hq => by
    obtain ⟨z, _, e⟩ := List.mem_map.mp (hp.mem_iff.mp hq)
    rw [← e]
  have hn : (0 : Int) < n := by have := F.n1; omega
  have sorted : (ps.map (·.2)).Pairwise fun x y => (x - (h : Int)) % (n : Int) < (y - (h : Int)) % (n : Int) := by
    refine List.pairwise_map.mpr ?_
    have nd2 := List.pairwise_map.mp nd
    refine (hs.and nd2).imp_of_mem fun {x y} hx hy hxy => ?_
    have l1 := hxy.1
    rw [key x hx, key y hy] at l1
    have ax := F.rg _ ((mem x.2).mp (List.mem_map.mpr ⟨x, hx, rfl⟩))
    have ay := F.rg _ ((mem y.2).mp (List.mem_map.mpr ⟨y, hy, rfl⟩))
    have ne : (x.2 - (h : Int)) % (n : Int) ≠ (y.2 - (h : Int)) % (n : Int) := fun z => hxy.2 (key_inj hn ax.2.1 ax.2.2 ay.2.1 ay.2.2 z)
    omega
  have e : ps.map (·.2) = (outN n ts h).map fun (o : Nat) => (o : Int) := by
    refine sorted_uniq (k := fun z => (z - (h : Int)) % (n : Int)) sorted ?_ fun z => ?_
    · refine List.pairwise_map.mpr ?_
      exact outN_sorted hh
    · rw [mem, List.mem_map]
      constructor
      · intro hz
        have r := F.rg _ hz
        refine ⟨z.toNat, (outN_mem F hh).mpr ?_, by omega⟩
        show (((h : Nat) : Int), ((z.toNat : Nat) : Int)) ∈ ts
        rw [show ((z.toNat : Nat) : Int) = z by omega]; exact hz
      · rintro ⟨o, ho, rfl⟩
        exact (outN_mem F hh).mp ho
  rw [e, List.map_map]
  rfl
section
variable {P : Program} {w : World} {K : PySem.W.Frag} {mg : Str → Option Value} {base : Heap}
theorem scOuts : FnScope ["many", "ties", "house", "others"] ["many", "ties", "house"] (defScope sOuts) := ⟨rfl, rfl, rfl, by decide +kernel, rfl, by decide +kernel, by decide +kernel⟩
def spOuts (Pt : Addr) : Sp := fun vs H Q _ => ∃ (n : Nat) (l : Addr) (h : Nat) (zs : Zs), vs = [.int n, .ref l, .int h] ∧ h < n ∧ TiesAt H l n zs ∧ Tab Pt H ∧
  ∀ (r : Addr) (H' : Hp), Tab Pt H' → SameT Pt H H' → H r = none → H' r = some (.lst (NV (outN n (zp zs) h))) → Q (.ref r) H'
theorem ok_outs {f c Pt : Addr} {fd : FuncData} (F : FunC K "houses_out" "houses_out" sOuts f fd c) (B : Bl mg) (kb : K.In base) (hb : BmOk mg base) (hc : PySem.W.codeHdIn K c Pt = true) :
    FnOk P w K mg base CX0 1 f fd ["many", "ties", "house"] (spOuts Pt) := by
  refine F.ok scOuts (fun vs H Q E h => ?_) (fun A outer s H vs Q E hr h => ?_)
  · obtain ⟨n, l, h, zs, rfl, _⟩ := h
    rfl
  · obtain ⟨n, l, h, zs, rfl, hh, T, tb, k⟩ := h
    have fi := T.fine
    have n1 := fi.n1
    have hlen : zs.length ≤ 256 := by have := fi.len; rw [zp_len] at this; exact this
    have LS : LamS (cxOf CX0 P w K mg base ["many", "ties", "house", "others"] "houses_out" (defScope sOuts) f (.ref c) A outer s H E).nox outsQ lamArgs lamBody lamSc "other" "house" "many" 2 0 :=
      ⟨⟨_, _, _, _, _, rfl⟩, fun _ _ _ _ _ => rfl, rfl, rfl, rfl, rfl, rfl, rfl, rfl, by decide +kernel, by decide +kernel, by decide +kernel, rfl, rfl, rfl, by decide, ⟨by decide, by decide⟩, ⟨by decide, by decide⟩⟩
    refine' ⟨_, pss_cons (ps_setComp (i := 3) (g := gTup K 2 (gCons (gName 0) (gCons (gName 1) gNil))) (NB := ["one", "other", "house"]) (src := [none, none, some 2]) (blk_of (by kernel_rfl)) rfl (pi_list (pv 1)) ?g ?t ?e scOuts.nd rfl rfl rfl)
      (pss_one (ps_ret (pe_callBK (call_sortK LS hr) rfl B.sorted PyProof.Rows.boot_sorted (pa_cons (pv 3) pa_nil) (pk_cons (pe_lam (NB := ["other", "house", "many"]) (src := [none, some 2, some 0]) (lamC_of kb hb hc) (blk_of (by kernel_rfl))) pk_nil)))), ?_⟩
    case g => exact fun cl C s₃ H₃ fp => pg_tup (n := 2) rfl (pgs_cons (pg_name (i := 0) nb3 rfl (Or.inl rfl) (Or.inr rfl)) (pgs_cons (pg_name (i := 1) nb3 rfl (Or.inl rfl) (Or.inr rfl)) pgs_nil))
    case t => exact fun cl C s₃ H₃ fp => pts_one (pt_cmpR op_eq (pv 0) (pv 2) (nomark _))
    case e => exact fun cl C s₃ H₃ fp => pv 1
    refine ⟨_, rfl, l, rfl, ⟨_, SqL.of T.at_⟩, fun D hD => ties_comp (fun σ => ∃ a b, σ = [a, b, some (.int (h : Int))]) (·.1) (·.2) (h : Int) hD T.at_ T.po (by omega) ⟨_, _, rfl⟩ ?_ ?_⟩
    · rintro z σ H3 Kt Kf hj ⟨x, y, rfl⟩ ha kt kf
      refine ⟨z.1, _, rfl, SqT.of ha, rfl, _, _, rfl, _, _, rfl, rfl, ?_⟩
      refine ⟨_, rfl, _, rfl, rfl, _, rfl, ?_⟩
      refine ite2 (fun e => ?_) (fun e => ?_)
      · exact ⟨_, rfl, kt _ ⟨_, _, rfl⟩ (by simpa using e)⟩
      · exact kf _ ⟨_, _, rfl⟩ (by simpa using e)
    · generalize hos : ((zp zs).filter fun y => decide (y.1 = (h : Int))).map (·.2) = os
      have hol : os.length ≤ 8 := by rw [← hos, List.length_map]; exact fi.most h
      have sm : Same H (upd H D (.lst (IV os))) := same_new hD
      refine ⟨_, rfl, tb.same sm, fun f' c' H2 t2' old hc' hf' => ?_⟩
      have t2 : Tab Pt H2 := t2'
      have hD2 : H2 D = some (.lst (IV os)) := old _ _ upd_same ((tb.same sm).not upd_same (by intro ps z; cases z))
      refine ⟨D, f', c', os, h, n, rfl, rfl, SqL.of hD2, (by omega), hf', hc', rfl, rfl, by omega, fun r out hr' ko => ?_⟩
      rw [← hos] at ko
      rw [kOut_outN fi hh ko]
      have sm2 : Same H2 (upd H2 r (.lst (NV (outN n (zp zs) h)))) := same_new hr'
      refine k r _ (t2.same sm2) (fun b o e hb => sm2 _ _ (old b o (sm _ _ e) hb)) ?_ upd_same
      cases z : H r with
      | none => rfl
      | some o =>
        by_cases hP : r = Pt
        · rcases t2 with q | ⟨_, q, _⟩ <;> · rw [← hP, hr'] at q; cases q
        · rw [old r o (sm _ _ z) hP] at hr'; cases hr'
end
end K12
namespace K12
open PySem L2 NetM
abbrev sDist : Stmt := top 30
abbrev sReach : Stmt := top 31
def rowV (n : Nat) (R : List Nat) (f : Nat → Nat) : List V := (List.range n).map fun x => if x ∈ R then V.int ((f x : Nat) : Int) else .non
theorem rowV_len {n : Nat} {R : List Nat} {f : Nat → Nat} : (rowV n R f).length = n := by unfold rowV; rw [List.length_map, List.length_range]
theorem rowV_get {n : Nat} {R : List Nat} {f : Nat → Nat} {x : Nat} (h : x < n) : (rowV n R f)[x]? = some (if x ∈ R then V.int ((f x : Nat) : Int) else .non) := by
  unfold rowV
  rw [List.getElem?_map, List.getElem?_range h]
  rfl
theorem rowV_start {n s : Nat} (hs : s < n) : (List.replicate n V.non).set s (V.int 0) = rowV n [s] (fun _ => 0) := by
  apply List.ext_getElem?
  intro x
  by_cases hx : x < n
  · rw [rowV_get hx]
    by_cases e : x = s
    · subst e
      rw [List.getElem?_set_self (by rw [List.length_replicate]; exact hx), if_pos (by simp)]
      rfl
    · rw [List.getElem?_set_ne (fun z => e z.symm), List.getElem?_replicate, if_pos hx, if_neg (by simp [e])]
  · rw [List.getElem?_eq_none (by rw [List.length_set, List.length_replicate]; omega), List.getElem?_eq_none (by rw [rowV_len]; omega)]
theorem rowV_put {n v k : Nat} {R : List Nat} {f : Nat → Nat} (hv : v < n) : (rowV n R f).set v (V.int ((k : Nat) : Int)) = rowV n (R ++ [v]) (put f v k) := by
  apply List.ext_getElem?
  intro x
  by_cases hx : x < n
  · rw [rowV_get hx]
    by_cases e : x = v
    · subst e
      rw [List.getElem?_set_self (by rw [rowV_len]; exact hx), if_pos (by simp), put_same]
    · rw [List.getElem?_set_ne (fun z => e z.symm), rowV_get hx, put_ne e]
      by_cases h : x ∈ R
      · rw [if_pos h, if_pos (List.mem_append_left _ h)]
      · rw [if_neg h, if_neg (fun z => (List.mem_append.mp z).elim h fun z => e (by simpa using z))]
  · rw [List.getElem?_eq_none (by rw [List.length_set, rowV_len]; omega), List.getElem?_eq_none (by rw [rowV_len]; omega)]
def slotN (σ : St) : Nat := match σ[4]? with
  | some (some (V.int z)) => z.toNat
  | _ => 0
theorem nbO : (["others"] : List Str).Nodup := by decide +kernel
def OutsAt (H : Hp) (ol : Addr) (n : Nat) (ts : Ts) : Prop := ∃ bs : List Addr, H ol = some (.lst (bs.map V.ref)) ∧ Holds H bs n (fun h => .lst (NV (outN n ts h)))
theorem OutsAt.same {H H' : Hp} {ol : Addr} {n : Nat} {ts : Ts} (x : OutsAt H ol n ts) (e : Same H H') : OutsAt H' ol n ts := let ⟨bs, a, b⟩ := x; ⟨bs, e _ _ a, b.mono fun _ _ z => e _ _ z⟩
theorem getAs {as : List Addr} {i : Nat} {x : V} (h : (as.map V.ref)[i]? = some x) : i < as.length ∧ x = .ref (as.getD i 0) := by
  rw [List.getElem?_map] at h
  cases e : as[i]? with
  | none => rw [e] at h; cases h
  | some a =>
    rw [e] at h
    refine ⟨(List.getElem?_eq_some_iff.mp e).1, ?_⟩
    rw [List.getD_eq_getElem?_getD, e]
    exact (Option.some.inj h).symm
section
variable {P : Program} {w : World} {K : PySem.W.Frag} {mg : Str → Option Value} {base : Heap}
theorem scDist : FnScope ["out_lists", "start", "distances", "reached", "at", "house", "other"] ["out_lists", "start"] (defScope sDist) := ⟨rfl, rfl, rfl, by decide +kernel, rfl, by decide +kernel, by decide +kernel⟩
def spDist : Sp := fun vs H Q _ => ∃ (ol : Addr) (n s : Nat) (ts : Ts), vs = [.ref ol, .int s] ∧ Fine n ts ∧ s < n ∧ OutsAt H ol n ts ∧
  ∀ (r : Addr) (H' : Hp), Same H H' → H r = none → H' r = some (.lst (NV ((List.range n).map (far ts s)))) → Q (.ref r) H'
theorem ok_dist {f : Addr} {fd : FuncData} (F : Fun K "distances_from" "distances_from" sDist f fd) (B : Bl mg) : FnOk P w K mg base CX0 1 f fd ["out_lists", "start"] spDist := by
  refine F.ok scDist (fun vs H Q E h => ?_) (fun cdv A outer s H vs Q E hr h => ?_)
  · obtain ⟨ol, n, s, ts, rfl, _⟩ := h
    rfl
  · obtain ⟨ol, n, st, ts, rfl, fi, hs, O, k⟩ := h
    have n1 := fi.n1
    have n2 := fi.n2
    refine' ⟨_, pss_cons (ps_setComp (i := 2) (g := gName 0) (NB := ["others"]) (src := [none]) (blk_of (by kernel_rfl)) rfl (pi_list (pv 0)) ?g ?t ?e scDist.nd rfl rfl rfl)
      (pss_cons (ps_asg pe_int (pg_sub (pv 2) (pv 1) set_list))
      (pss_cons (ps_set (i := 3) scDist.nd rfl (Or.inl rfl) (pe_lst (pa_cons (pv 1) pa_nil)))
      (pss_cons (ps_set (i := 4) scDist.nd rfl (Or.inl rfl) pe_int)
      (pss_cons (ps_while PassesOwn.never (pt_cmpR op_lt (pv 4) (pe_callB call_len_seq (by rfl) B.len PySem.boot_len (pa_cons (pv 3) pa_nil)) (nomark _))
        (pss_cons (ps_set (i := 5) scDist.nd rfl (Or.inl rfl) (pe_ix ix_list (pv 3) (pv 4) (fun _ _ => rfl)))
        (pss_cons (ps_for PassesOwn.never rfl (pi_list (pe_ix ix_list (pv 0) (pv 5) (fun _ _ => rfl))) (pg_name (i := 6) scDist.nd rfl (Or.inl rfl))
          (pss_one (ps_if (pt_cmpR op_isN (pe_ix ix_list (pv 2) (pv 6) (fun _ _ => rfl)) pe_non (nomark _))
            (pss_cons (ps_asg (pe_op op_add (pe_ix ix_list (pv 2) (pv 5) (fun _ _ => rfl)) pe_int) (pg_sub (pv 2) (pv 6) set_list))
            (pss_one (ps_expr (pe_bm PySem.F.plainAttrs_list PySem.F.slot_list_append PySem.F.type_list_append mt_append (pv 3) (pa_cons (pv 6) pa_nil))))) pss_nil)))
        (pss_one (ps_aug (i := 4) scDist.nd rfl (Or.inl rfl) pe_int ip_add)))))
      (pss_one (ps_ret (pv 2))))))), ?_⟩
    case g => exact fun cl C s₃ H₃ fp => pg_name (i := 0) nbO rfl (Or.inl rfl) (Or.inr rfl)
    case t => exact fun cl C s₃ H₃ fp => pts_nil
    case e => exact fun cl C s₃ H₃ fp => pe_non
    obtain ⟨bs, hol, hbl, hbs⟩ := id O
    refine ⟨_, rfl, ol, rfl, ⟨_, SqL.of hol⟩, fun D hD => ?_⟩
    have nol : ol ≠ D := ne_of_none hol hD
    refine comp_list (xs := bs.map V.ref) (fun i ys σ H2 => (∃ a, σ = [a]) ∧ ys = List.replicate i V.non ∧ H2 = upd H D (.lst ys)) ⟨⟨_, rfl⟩, rfl, rfl⟩ (fun i ys σ H2 _ ⟨_, _, e⟩ => by rw [e]; exact SqL.of (by rw [upd_ne nol]; exact hol)) ?_ ?_
    · rintro i x ys σ H2 Kt Kf hx ⟨⟨a, rfl⟩, rfl, rfl⟩ kt kf
      have hi := (getAs hx).1
      refine kt _ _ _ upd_same ?_ ⟨⟨_, rfl⟩, ?_, by rw [upd_upd]⟩
      · rw [List.length_replicate]
        exact Nat.lt_of_lt_of_le hi (by rw [hbl]; exact Nat.le_trans n2 (by decide))
      · rw [List.replicate_succ']
    · rintro ys σ H2 ⟨_, rfl, rfl⟩
      rw [List.length_map, hbl]
      refine ⟨_, rfl, _, rfl, D, _, st, st, rfl, rfl, upd_same, by rw [List.length_replicate]; exact ixN_nat hs, ?_⟩
      rw [upd_upd, rowV_start hs]
      refine ⟨_, rfl, by show 1 ≤ sizeLine; decide, fun R hR => ?_⟩
      have nDR : D ≠ R := ne_of_none (H := upd H D (.lst (rowV n [st] (fun _ => 0)))) upd_same hR
      have hR0 : H R = none := by rw [upd_ne nDR.symm] at hR; exact hR
      refine while_by (fun σ H2 => ∃ (i : Nat) (Rs : List Nat) (f : Nat → Nat), i ≤ Rs.length ∧ Bfs n ts st i Rs f ∧ (∃ a b, σ = [some (.ref ol), some (.int st), some (.ref D), some (.ref R), some (.int (i : Int)), a, b]) ∧ Same H H2 ∧ H2 D = some (.lst (rowV n Rs f)) ∧ H2 R = some (.lst (NV Rs)))
        (fun σ _ => n - slotN σ) ⟨0, [st], fun _ => 0, Nat.zero_le _, Bfs.start hs, ⟨none, none, rfl⟩, same_put (same_new hD) hR0, ?_, upd_same⟩ ?_ ?_
      · rw [upd_ne nDR, upd_same]
      · rintro σ H2 ⟨i, Rs, f, hi, Bf, ⟨a, b, rfl⟩, sm, hD2, hR2⟩
        have hRn : Rs.length ≤ n := nodup_lt_len Bf.nd Bf.lt
        refine ⟨_, rfl, _, rfl, R, _, rfl, .inl (SqL.of hR2), _, _, rfl, rfl, _, rfl, ?_⟩
        rw [nv_len]
        by_cases hin : i < Rs.length
        · rw [show decide ((i : Int) < ((Rs.length : Nat) : Int)) = true by simp; omega]
          refine iteT ?_
          have hu : Rs[i]? = some Rs[i] := List.getElem?_eq_getElem hin
          generalize Rs[i] = u at hu
          have hun : u < n := Bf.lt u (List.mem_of_getElem? hu)
          have huR : (NV Rs)[i]? = some (.int (u : Int)) := by rw [List.getElem?_map, hu]; rfl
          refine ⟨_, rfl, _, rfl, R, _, _, _, rfl, rfl, SqL.of hR2, atI_nat huR, ?_⟩
          have hb1 : (bs.map V.ref)[u]? = some (.ref (bs.getD u 0)) := by
            rw [List.getElem?_map, List.getD_eq_getElem?_getD, List.getElem?_eq_getElem (by rw [hbl]; exact hun)]; rfl
          have hb2 := sm _ _ (hbs _ hun)
          refine ⟨_, rfl, _, rfl, ol, _, _, _, rfl, rfl, SqL.of (sm _ _ hol), atI_nat hb1, _, rfl, ⟨_, SqL.of hb2⟩, ?_⟩
          have nbD : bs.getD u 0 ≠ D := ne_of_none (hbs _ hun) hD
          have nbR : bs.getD u 0 ≠ R := ne_of_none (hbs _ hun) hR0
          refine for_list (K := K) (xs := NV (outN n ts u)) (fun j σ H3 => ∃ (Rs' : List Nat) (f' : Nat → Nat), Bfs n ts st i Rs' f' ∧ Rs'[i]? = some u ∧ (∀ v ∈ (outN n ts u).take j, v ∈ Rs' ∧ f' v ≤ f' u + 1) ∧
            (∃ b, σ = [some (.ref ol), some (.int st), some (.ref D), some (.ref R), some (.int (i : Int)), some (.int (u : Int)), b]) ∧ Same H H3 ∧ H3 D = some (.lst (rowV n Rs' f')) ∧ H3 R = some (.lst (NV Rs')))
            ⟨Rs, f, Bf, hu, fun v hv => by simp at hv, ⟨_, rfl⟩, sm, hD2, hR2⟩ (fun j σ H3 _ ⟨_, _, _, _, _, _, sm3, _⟩ => SqL.of (sm3 _ _ (hbs _ hun))) ?_ ?_
          · rintro j x σ H3 hx ⟨Rs', f', Bf', hu', dn, ⟨b', rfl⟩, sm3, hD3, hR3⟩
            rw [List.getElem?_map] at hx
            cases hv : (outN n ts u)[j]? with
            | none => rw [hv] at hx; cases hx
            | some v =>
              rw [hv] at hx
              obtain rfl : V.int ((v : Nat) : Int) = x := Option.some.inj hx
              have hvm : v ∈ outN n ts u := List.mem_of_getElem? hv
              have hvn : v < n := outN_lt fi hun hvm
              have tuv : T ts u v := (outN_mem fi hun).mp hvm
              have tk : (outN n ts u).take (j + 1) = (outN n ts u).take j ++ [v] := by rw [List.take_add_one, hv]; rfl
              have hun' : u ∈ Rs' := List.mem_of_getElem? hu'
              refine ⟨_, rfl, _, rfl, D, _, _, _, rfl, rfl, SqL.of hD3, atI_nat (rowV_get hvn), rfl, _, rfl, ?_⟩
              by_cases hvR : v ∈ Rs'
              · rw [if_pos hvR]
                refine iteF ⟨Rs', f', Bf', hu', fun x hx => ?_, ⟨_, rfl⟩, sm3, hD3, hR3⟩
                rw [tk] at hx
                rcases List.mem_append.mp hx with z | z
                · exact dn x z
                · simp at z; subst z; exact ⟨hvR, Bf'.bd u hu' _ hvR⟩
              · rw [if_neg hvR]
                refine iteT ?_
                have hg2 : (rowV n Rs' f')[u]? = some (.int ((f' u : Nat) : Int)) := by rw [rowV_get hun, if_pos hun']
                refine ⟨_, rfl, _, rfl, D, _, _, _, rfl, rfl, SqL.of hD3, atI_nat hg2, _, _, rfl, rfl, _, rfl, _, rfl, D, _, _, _, rfl, rfl, hD3, by rw [rowV_len]; exact ixN_nat hvn, ?_⟩
                have e1 : (rowV n Rs' f').set v (.int (((f' u : Nat) : Int) + 1)) = rowV n (Rs' ++ [v]) (put f' v (f' u + 1)) := by
                  rw [show ((f' u : Nat) : Int) + 1 = ((f' u + 1 : Nat) : Int) by omega, rowV_put hvn]
                rw [e1]
                have hR4 : (upd H3 D (.lst (rowV n (Rs' ++ [v]) (put f' v (f' u + 1))))) R = some (.lst (NV Rs')) := by rw [upd_ne nDR.symm]; exact hR3
                have hlen' : Rs'.length ≤ n := nodup_lt_len Bf'.nd Bf'.lt
                refine ⟨_, rfl, .inl ⟨rfl, _, SqL.of hR4⟩, _, rfl, R, _, _, rfl, rfl, hR4, by rw [nv_len]; exact Nat.lt_of_lt_of_le (show Rs'.length < 33 by omega) (by decide), ?_⟩
                have hi' : i < Rs'.length := (List.getElem?_eq_some_iff.mp hu').1
                have nuv : u ≠ v := fun z => hvR (z ▸ hun')
                refine ⟨Rs' ++ [v], put f' v (f' u + 1), Bf'.add hu' hvn tuv hvR, by rw [List.getElem?_append_left hi']; exact hu', fun x hx => ?_, ⟨_, rfl⟩, same_put (same_put sm3 hD) hR0, ?_, ?_⟩
                · rw [put_ne nuv]
                  rw [tk] at hx
                  rcases List.mem_append.mp hx with z | z
                  · obtain ⟨q1, q2⟩ := dn x z
                    exact ⟨List.mem_append_left _ q1, by rw [put_ne (fun (z : x = v) => hvR (z ▸ q1))]; exact q2⟩
                  · simp at z; subst z
                    exact ⟨by simp, by rw [put_same]; exact Nat.le_refl _⟩
                · rw [upd_ne nDR, upd_same]
                · rw [upd_same]; show _ = some (HO.lst (NV (Rs' ++ [v]))); rw [show NV (Rs' ++ [v]) = NV Rs' ++ [.int (v : Int)] by unfold NV; rw [List.map_append]; rfl]
          · rintro σ H3 ⟨Rs', f', Bf', hu', dn, ⟨b', rfl⟩, sm3, hD3, hR3⟩
            rw [nv_len, List.take_length] at dn
            have hi' : i < Rs'.length := (List.getElem?_eq_some_iff.mp hu').1
            have hlen' : Rs'.length ≤ n := nodup_lt_len Bf'.nd Bf'.lt
            refine ⟨_, rfl, _, _, rfl, rfl, ⟨⟨i + 1, Rs', f', hi', Bf'.next hu' (fun v t => dn v ((outN_mem fi hun).mpr t)), ⟨_, _, rfl⟩, sm3, hD3, hR3⟩, ?_⟩⟩
            show n - ((i : Int) + 1).toNat < n - (i : Int).toNat
            omega
        · rw [show decide ((i : Int) < ((Rs.length : Nat) : Int)) = false by rw [decide_eq_false_iff_not]; omega]
          have e : rowV n Rs f = NV ((List.range n).map (far ts st)) := by
            unfold rowV NV
            rw [List.map_map]
            refine List.map_congr_left fun x hx => ?_
            obtain ⟨q1, q2⟩ := Bf.done fi (by omega) (List.mem_range.mp hx)
            rw [if_pos q1, q2]; rfl
          rw [e] at hD2
          refine iteF ⟨_, rfl, k D H2 sm hD hD2⟩
      · rintro σ H2 Q1 Q2 imp ⟨v, e1, v2, e2, p, ys, e3, e4, i1, i2, e5, e6, kk, e7, q⟩
        exact ⟨v, e1, v2, e2, p, ys, e3, e4, i1, i2, e5, e6, kk, e7, imp _ _ q⟩
end
end K12
namespace K12
open PySem L2 NetM
theorem nbRow : (["row"] : List Str).Nodup := by decide +kernel
section
variable {P : Program} {w : World} {K : PySem.W.Frag} {mg : Str → Option Value} {base : Heap}
theorem scReach : FnScope ["distances"] ["distances"] (defScope sReach) := ⟨rfl, rfl, rfl, by decide +kernel, rfl, by decide +kernel, by decide +kernel⟩
def spReach : Sp := fun vs H Q _ => ∃ (l : Addr) (ds : List Addr) (n : Nat) (o : Nat → List V), vs = [.ref l] ∧ H l = some (.lst (ds.map V.ref)) ∧ n ≤ 32 ∧ Holds H ds n (fun j => .lst (o j)) ∧ (∀ j, j < n → ∀ x ∈ o j, ∃ i, x = .int i) ∧ ∀ H', Same H H' → Q .non H'
theorem ok_reach {f : Addr} {fd : FuncData} (F : Fun K "check_reached" "check_reached" sReach f fd) (B : Bl mg) : FnOk P w K mg base CX0 1 f fd ["distances"] spReach := by
  refine F.ok scReach (fun vs H Q E h => ?_) (fun cdv A outer s H vs Q E hr h => ?_)
  · obtain ⟨l, ds, n, o, rfl, _⟩ := h
    rfl
  · obtain ⟨l, ds, n, o, rfl, hl, n2, hh, hx, k⟩ := h
    refine' ⟨_, pss_one (ps_if (pt_val (pe_callB (call_anyB rfl) (by rfl) B.any PyProof.Rows.boot_any (pa_cons ?c pa_nil))) pss_never pss_nil), ?_⟩
    case c =>
      refine' pe_comp (g := gName 0) (te := tOp (rIn K false) (tC .non) (tVar 0)) (NB := ["row"]) (src := [none]) (blk_of (by kernel_rfl)) rfl (pi_list (pv 0)) ?g ?t ?e
      case g => exact fun cl C s₃ H₃ fp => pg_name (i := 0) nbRow rfl (Or.inl rfl) (Or.inr rfl)
      case t => exact fun cl C s₃ H₃ fp => pts_nil
      case e => exact fun cl C s₃ H₃ fp => pe_cmpR op_in_seq pe_non (pv 0) rfl
    refine ⟨_, rfl, l, rfl, ⟨_, SqL.of hl⟩, fun D hD => ?_⟩
    have nl : l ≠ D := ne_of_none hl hD
    refine comp_list (xs := ds.map V.ref) (fun i ys σ H2 => (∃ a, σ = [a]) ∧ ys = (List.replicate i false).map V.bl ∧ H2 = upd H D (.lst ys)) ⟨⟨_, rfl⟩, rfl, rfl⟩ (fun i ys σ H2 _ ⟨_, _, e⟩ => by rw [e]; exact SqL.of (by rw [upd_ne nl]; exact hl)) ?_ ?_
    · rintro i x ys σ H2 Kt Kf hxi ⟨⟨a, rfl⟩, rfl, rfl⟩ kt kf
      obtain ⟨hi, rfl⟩ := getAs hxi
      rw [hh.1] at hi
      have hd := hh.2 i hi
      have nd : ds.getD i 0 ≠ D := ne_of_none hd hD
      have q1 : (o i).all flatV = true := List.all_eq_true.mpr fun x hx' => by obtain ⟨z, rfl⟩ := hx i hi x hx'; rfl
      have q2 : inV .non (o i) = false := by
        unfold inV
        rw [List.any_eq_false]
        intro x hx'
        obtain ⟨z, rfl⟩ := hx i hi x hx'
        exact fun z => by cases z
      refine ⟨_, rfl, _, _, rfl, .inl (SqL.of (by rw [upd_ne nd]; exact hd)), rfl, q1, ?_⟩
      refine kt _ _ _ upd_same ?_ ⟨⟨_, rfl⟩, ?_, by rw [upd_upd]⟩
      · rw [List.length_map, List.length_replicate]
        exact Nat.lt_of_lt_of_le hi (Nat.le_trans n2 (by decide))
      · rw [List.replicate_succ', List.map_append, q2]; rfl
    · rintro ys σ H2 ⟨_, rfl, rfl⟩
      refine ⟨D, _, rfl, SqL.of upd_same, _, rfl, ?_⟩
      have e : (List.replicate (ds.map V.ref).length false).any id = false := by
        rw [List.any_eq_false]; intro x hx'; rw [(List.mem_replicate.mp hx').2]; decide
      rw [e]
      exact iteF (k _ (same_new hD))
end
end K12
namespace K12
open PySem L2 NetM
theorem nb2 : (["one", "other"] : List Str).Nodup := by decide +kernel
theorem nbHMT : (["house", "many", "ties"] : List Str).Nodup := by decide +kernel
theorem nbHS : (["house", "self"] : List Str).Nodup := by decide +kernel
def SameD (p Pt : Addr) (H H' : Hp) : Prop := ∀ b o, H b = some o → b ≠ p → b ≠ Pt → H' b = some o
theorem TiesAt.mono {p Pt : Addr} {H H' : Hp} {l : Addr} {n : Nat} {zs : Zs} {C dx : Addr} {fs : List (Str × V)} (h : TiesAt H l n zs) (e : SameD p Pt H H') (hp : H p = some (.ins C dx fs)) (tb : Tab Pt H) : TiesAt H' l n zs :=
  ⟨h.fine, e _ _ h.at_ (ne_of h.at_ hp (by intro z; cases z)) (tb.not h.at_ (by intro ps z; cases z)), fun z hz => e _ _ (h.po z hz) (ne_of (h.po z hz) hp (by intro z; cases z)) (tb.not (h.po z hz) (by intro ps z; cases z))⟩
theorem Tab.mono {p Pt C dx : Addr} {fs : List (Str × V)} {H H' : Hp} (t : Tab Pt H) (e : ∀ b o, H b = some o → b ≠ p → H' b = some o) (hp : H p = some (.ins C dx fs)) : Tab Pt H' := by
  rcases t with z | ⟨c, z, y⟩
  · exact .inl (e _ _ z (ne_of z hp (by intro q; cases q)))
  · exact .inr ⟨c, e _ _ z (ne_of z hp (by intro q; cases q)), e _ _ y (ne_of y hp (by intro q; cases q))⟩
theorem Tab.full {Pt : Addr} {H : Hp} (t : Tab Pt H) : H Pt ≠ none := by
  rcases t with z | ⟨c, z, y⟩ <;> rw [z] <;> intro q <;> cases q
theorem SameD.free {p Pt r : Addr} {H H' : Hp} (s : SameD p Pt H H') (hp : H' p ≠ none) (tb : Tab Pt H') (h : H' r = none) : H r = none := by
  cases z : H r with
  | none => rfl
  | some o =>
    by_cases e1 : r = p
    · subst e1; exact absurd h hp
    · by_cases e2 : r = Pt
      · subst e2; exact absurd h tb.full
      · rw [s r o z e1 e2] at h; cases h
theorem nil_k {σ : St} {H : Hp} {k : List V → Hp → Prop} (h : k [] H) : tNil σ H k := h
theorem some_ne {H : Hp} {p : Addr} {o : HO} (h : H p = some o) : H p ≠ none := by rw [h]; intro z; cases z
section
variable {P : Program} {w : World} {K : PySem.W.Frag} {mg : Str → Option Value} {base : Heap}
theorem scInit : FnScope ["self", "many", "ties"] ["self", "many", "ties"] (defScope sInit) := ⟨rfl, rfl, rfl, by decide +kernel, rfl, by decide +kernel, by decide +kernel⟩
def spInit (C Pt : Addr) : Sp := fun vs H Q E => ∃ (p dx : Addr) (n : Nat) (l : Addr) (zs : Zs), vs = [.ref p, .int n, .ref l] ∧ H p = some (.ins C dx []) ∧ TiesAt H l n zs ∧ Tab Pt H ∧
    ∀ H', NetAt C H' (fun a => H a = none) p n (zp zs) → Tab Pt H' → SameD p Pt H H' → Q .non H'
theorem ok_init {f C Pt : Addr} {fd : FuncData} (F : Fun K "__init__" "Net.__init__" sInit f fd) (T : NT K mg C) (B : Bl mg) (CT : Cal P w K mg base CX0 6 "check_ties" ["many", "ties"] spCTies) (CB : Cal P w K mg base CX0 1 "check_balance" ["many", "ties"] spCTies)
    (HO' : Cal P w K mg base CX0 1 "houses_out" ["many", "ties", "house"] (spOuts Pt)) (DF : Cal P w K mg base CX0 1 "distances_from" ["out_lists", "start"] spDist) (CR : Cal P w K mg base CX0 1 "check_reached" ["distances"] spReach) :
    FnOk P w K mg base CX0 7 f fd ["self", "many", "ties"] (spInit C Pt) := by
  refine F.ok scInit (fun vs H Q E h => ?_) (fun cdv A outer s H vs Q E hr h => ?_)
  · obtain ⟨p, dx, n, l, zs, rfl, _⟩ := h
    rfl
  · have hr1 : Room 1 _ := hr.mono (by decide)
    refine' ⟨_, pss_cons (ps_expr (pe_cal CT hr pass0 (pa_cons (pv 1) (pa_cons (pv 2) pa_nil))))
      (pss_cons (ps_expr (pe_cal CB hr1 pass0 (pa_cons (pv 1) (pa_cons (pv 2) pa_nil))))
      (pss_cons (ps_fld (pv 0) (pv 1) rfl)
      (pss_cons (ps_fld (pv 0) (pe_callB call_sortA (by rfl) B.sorted PyProof.Rows.boot_sorted (pa_cons ?c1 pa_nil)) rfl)
      (pss_cons (ps_fld (pv 0) ?c2 rfl)
      (pss_cons (ps_fld (pv 0) ?c3 rfl)
      (pss_one (ps_expr (pe_cal CR hr1 pass0 (pa_cons (pe_fld (pv 0) rfl) pa_nil))))))))), ?_⟩
    case c1 =>
      refine' pe_comp (g := gTup K 2 (gCons (gName 0) (gCons (gName 1) gNil))) (te := tTup (tCons (tVar 0) (tCons (tVar 1) tNil))) (NB := ["one", "other"]) (src := [none, none]) (blk_of (by kernel_rfl)) rfl (pi_list (pv 2)) ?g ?t ?e
      case g => exact fun cl C s₃ H₃ fp => pg_tup (n := 2) rfl (pgs_cons (pg_name (i := 0) nb2 rfl (Or.inl rfl) (Or.inr rfl)) (pgs_cons (pg_name (i := 1) nb2 rfl (Or.inl rfl) (Or.inr rfl)) pgs_nil))
      case t => exact fun cl C s₃ H₃ fp => pts_nil
      case e => exact fun cl C s₃ H₃ fp => pe_tup (pa_cons (pv 0) (pa_cons (pv 1) pa_nil))
    case c2 =>
      refine' pe_comp (g := gName 0) (te := tCall (spOuts Pt) [] E0 (tCons (tVar 1) (tCons (tVar 2) (tCons (tVar 0) tNil)))) (NB := ["house", "many", "ties"]) (src := [none, some 1, some 2]) (blk_of (by kernel_rfl)) rfl (pi_range1 rfl B.range (pa_cons (pv 1) pa_nil)) ?g ?t ?e
      case g => exact fun cl C s₃ H₃ fp => pg_name (i := 0) nbHMT rfl (Or.inl rfl) (Or.inr rfl)
      case t => exact fun cl C s₃ H₃ fp => pts_nil
      case e => exact fun cl C s₃ H₃ fp => pe_cal HO' hr1 pass0 (pa_cons (pv 1) (pa_cons (pv 2) (pa_cons (pv 0) pa_nil)))
    case c3 =>
      refine' pe_comp (g := gName 0) (te := tCall spDist [] E0 (tCons (tFld K (tVar 1) "out_lists") (tCons (tVar 0) tNil))) (NB := ["house", "self"]) (src := [none, some 0]) (blk_of (by kernel_rfl)) rfl (pi_range1 rfl B.range (pa_cons (pv 1) pa_nil)) ?g ?t ?e
      case g => exact fun cl C s₃ H₃ fp => pg_name (i := 0) nbHS rfl (Or.inl rfl) (Or.inr rfl)
      case t => exact fun cl C s₃ H₃ fp => pts_nil
      case e => exact fun cl C s₃ H₃ fp => pe_cal DF hr1 pass0 (pa_cons (pe_fld (pv 1) rfl) (pa_cons (pv 0) pa_nil))
    obtain ⟨p, dx, n, l, zs, rfl, hp, TT, tb, k⟩ := h
    have fi := TT.fine
    have n1 := fi.n1
    have n2 := fi.n2
    have hlen : zs.length ≤ 256 := by have := fi.len; rw [zp_len] at this; exact this
    refine ⟨_, rfl, _, rfl, n, l, zs, rfl, TT, fun H1 s1 => ?_⟩
    refine ⟨_, rfl, _, rfl, n, l, zs, rfl, TT.same s1, fun H2 s2 => ?_⟩
    have s12 : Same H H2 := s1.trans s2
    refine ⟨_, rfl, _, rfl, p, C, dx, [], rfl, s12 _ _ hp, T.cl, T.nH, (by show 0 < 1000; decide), ?_⟩
    let G1 : Hp := upd H2 p (.ins C dx (putF "house_count" (.int n) []))
    have d1 : SameD p Pt H G1 := fun b o e h1 _ => by show upd _ _ _ _ = _; rw [upd_ne h1]; exact s12 _ _ e
    have g1p : G1 p = some (.ins C dx (putF "house_count" (.int n) [])) := upd_same
    have TT1 : TiesAt G1 l n zs := TT.mono d1 hp tb
    have tb1 : Tab Pt G1 := tb.mono (fun b o e h1 => by show upd _ _ _ _ = _; rw [upd_ne h1]; exact s12 _ _ e) hp
    refine ⟨_, rfl, l, rfl, ⟨_, SqL.of TT1.at_⟩, fun D hD => ?_⟩
    refine comp_mkP (fun y => y) (fun σ => ∃ a b, σ = [a, b]) TT1.at_ TT1.po hD (by omega) ⟨_, _, rfl⟩ ?_ ?_
    · rintro z σ H3 R Kf hz ⟨a, b, rfl⟩ ha kk
      refine ⟨_, _, rfl, SqT.of ha, rfl, _, _, rfl, _, _, rfl, rfl, ?_⟩
      exact ⟨_, rfl, _, rfl, by show 2 ≤ sizeLine; decide, fun t ht => kk _ _ ⟨_, _, rfl⟩ ht⟩
    · intro zs2 H3 sm hD3 po3 ez
      rw [List.map_id'] at ez
      have hl2 : zs2.length = zs.length := by rw [← zp_len, ez, zp_len]
      refine nil_k ?_
      refine sort_of hD3 po3 (by omega) fun tl zs3 htl pm => ?_
      have e3p : H3 p = some (.ins C dx (putF "house_count" (.int n) [])) := sm _ _ g1p
      have nptl : p ≠ tl := ne_of_none e3p htl
      refine ⟨_, rfl, p, C, dx, _, rfl, by rw [upd_ne nptl]; exact e3p, T.cl, T.nT, by show 1 < 1000; decide, ?_⟩
      let G2 : Hp := upd (upd H3 tl (.lst (zr zs3))) p (.ins C dx (putF "tie_list" (.ref tl) (putF "house_count" (.int n) [])))
      have q2 : ∀ b o, H3 b = some o → b ≠ p → G2 b = some o := fun b o e h1 => by
        show upd _ _ _ _ = _
        rw [upd_ne h1, upd_ne (ne_of_none e htl)]; exact e
      have d2 : SameD p Pt H G2 := fun b o e h1 h2 => q2 _ _ (sm _ _ (d1 _ _ e h1 h2)) h1
      have g2p : G2 p = some (.ins C dx (putF "tie_list" (.ref tl) (putF "house_count" (.int n) []))) := upd_same
      have TT2 : TiesAt G2 l n zs := TT.mono d2 hp tb
      have tb2 : Tab Pt G2 := tb1.mono (fun b o e h1 => q2 _ _ (sm _ _ e) h1) g1p
      refine ⟨_, rfl, n, rfl, by omega, by omega, fun D2 hD2 => ?_⟩
      refine comp_range (n := n) (lo := 0) (fun i ys σ H4 => (∃ a, σ = [a, some (.int n), some (.ref l)]) ∧ ∃ bs : List Addr, ys = bs.map V.ref ∧ (∀ b ∈ bs, H b = none) ∧ Holds H4 bs i (fun h => .lst (NV (outN n (zp zs) h))) ∧ SameT Pt G2 H4 ∧ Tab Pt H4 ∧ H4 D2 = some (.lst ys) ∧ ∀ b ∈ bs, b ≠ D2)
        ⟨⟨_, rfl⟩, [], rfl, (fun _ h => nomatch h), Holds.nil, SameT.of (same_new hD2), tb2.same (same_new hD2), upd_same, (fun _ h => nomatch h)⟩ ?_ ?_
      · rintro i ys σ H4 Kt Kf hi ⟨⟨a, rfl⟩, bs, rfl, hbN, hb, sm4, tb4, hD4, hbD⟩ kt kf
        have TT4 : TiesAt H4 l n zs := TT2.mono (p := p) (fun b o e _ h2 => sm4 _ _ e h2) g2p tb2
        have e4p := sm4 _ _ g2p (tb2.not g2p (by intro ps z; cases z))
        refine ⟨_, rfl, _, rfl, _, rfl, n, l, i, zs, by rw [Int.zero_add]; rfl, hi, TT4, tb4, fun r H5 t5 st5 hr4 hr5 => ?_⟩
        have hrN : H r = none := SameD.free (fun b o e h1 h2 => sm4 _ _ (d2 _ _ e h1 h2) h2) (some_ne e4p) tb4 hr4
        have e5D : H5 D2 = some (.lst (bs.map V.ref)) := st5 _ _ hD4 (tb4.not hD4 (by intro ps z; cases z))
        have nrD : r ≠ D2 := by rintro rfl; rw [hD4] at hr4; cases hr4
        have keepD : ∀ b o ys', H5 b = some o → b ≠ D2 → (upd H5 D2 ys') b = some o := fun b o ys' e h => by rw [upd_ne h]; exact e
        refine kt _ _ _ e5D (by rw [List.length_map, hb.1]; exact Nat.lt_of_lt_of_le hi (Nat.le_trans n2 (by decide))) ⟨⟨_, rfl⟩, bs ++ [r], by rw [List.map_append]; rfl, ?_, ?_, ?_, ?_, upd_same, ?_⟩
        · intro b hb'
          rcases List.mem_append.mp hb' with z | z
          · exact hbN b z
          · rw [List.mem_singleton.mp z]; exact hrN
        · refine Holds.snoc (hb.mono fun j hj e => ?_) (keepD _ _ _ hr5 nrD)
          refine keepD _ _ _ (st5 _ _ e (tb4.not e (by intro ps z; cases z))) (hbD _ ?_)
          rw [List.getD_eq_getElem?_getD, List.getElem?_eq_getElem (by rw [hb.1]; exact hj)]; exact List.getElem_mem _
        · intro b o e h
          exact keepD _ _ _ (st5 _ _ (sm4 _ _ e h) h) (ne_of_none e hD2)
        · rcases t5 with z | ⟨c, z, y⟩
          · exact .inl (keepD _ _ _ z (ne_of z e5D (by intro q; cases q)))
          · exact .inr ⟨c, keepD _ _ _ z (ne_of z e5D (by intro q; cases q)), keepD _ _ _ y (ne_of y e5D (by intro q; cases q))⟩
        · intro b hb'
          rcases List.mem_append.mp hb' with z | z
          · exact hbD b z
          · rw [List.mem_singleton.mp z]; exact nrD
      · rintro ys σ H4 ⟨_, bs, rfl, hbN, hb, sm4, tb4, hD4, hbD⟩
        have e4p : H4 p = some (.ins C dx (putF "tie_list" (.ref tl) (putF "house_count" (.int n) []))) := sm4 _ _ g2p (tb2.not g2p (by intro ps z; cases z))
        have hD2N : H D2 = none := d2.free (some_ne g2p) tb2 hD2
        refine ⟨_, rfl, p, C, dx, _, rfl, e4p, T.cl, T.nO, by have h1 := length_putF "tie_list" (V.ref tl) (putF "house_count" (V.int n) []); have h2 := length_putF "house_count" (V.int n) []; simp at h2; omega, ?_⟩
        let G3 : Hp := upd H4 p (.ins C dx (putF "out_lists" (.ref D2) (putF "tie_list" (.ref tl) (putF "house_count" (.int n) []))))
        have q3 : ∀ b o, H4 b = some o → b ≠ p → G3 b = some o := fun b o e h1 => by show upd _ _ _ _ = _; rw [upd_ne h1]; exact e
        have g3p : G3 p = some (.ins C dx (putF "out_lists" (.ref D2) (putF "tie_list" (.ref tl) (putF "house_count" (.int n) [])))) := upd_same
        have d3 : SameD p Pt H G3 := fun b o e h1 h2 => q3 _ _ (sm4 _ _ (d2 _ _ e h1 h2) h2) h1
        have tb3 : Tab Pt G3 := tb4.mono q3 e4p
        have hb3 : Holds G3 bs n (fun h => .lst (NV (outN n (zp zs) h))) := hb.mono fun j hj e => q3 _ _ e (ne_of e e4p (by intro z; cases z))
        have g3D : G3 D2 = some (.lst (bs.map V.ref)) := q3 _ _ hD4 (ne_of hD4 e4p (by intro z; cases z))
        have O3 : OutsAt G3 D2 n (zp zs) := ⟨bs, g3D, hb3⟩
        refine ⟨_, rfl, n, rfl, by omega, by omega, fun D3 hD3' => ?_⟩
        refine comp_range (n := n) (lo := 0) (fun i ys σ H6 => (∃ a, σ = [a, some (.ref p)]) ∧ ∃ ds : List Addr, ys = ds.map V.ref ∧ (∀ b ∈ ds, H b = none) ∧ Holds H6 ds i (fun s => .lst (NV ((List.range n).map (far (zp zs) s)))) ∧ Same G3 H6 ∧ H6 D3 = some (.lst ys) ∧ ∀ b ∈ ds, b ≠ D3)
          ⟨⟨_, rfl⟩, [], rfl, (fun _ h => nomatch h), Holds.nil, same_new hD3', upd_same, (fun _ h => nomatch h)⟩ ?_ ?_
        · rintro i ys σ H6 Kt Kf hi ⟨⟨a, rfl⟩, ds, rfl, hdN, hd, sm6, hD6, hdD⟩ kt kf
          refine ⟨_, rfl, p, C, dx, _, _, rfl, sm6 _ _ g3p, T.cl, T.nO, by rw [lookup_putF, if_pos rfl], _, rfl, D2, n, i, zp zs, by rw [Int.zero_add]; rfl, fi, hi, O3.same sm6, fun r H7 st7 hr6 hr7 => ?_⟩
          have e7D : H7 D3 = some (.lst (ds.map V.ref)) := st7 _ _ hD6
          have nrD : r ≠ D3 := by rintro rfl; rw [hD6] at hr6; cases hr6
          have hrN : H r = none := SameD.free (fun b o e h1 h2 => sm6 _ _ (d3 _ _ e h1 h2)) (some_ne (sm6 _ _ g3p)) (tb3.same sm6) hr6
          have keepD : ∀ b o ys', H7 b = some o → b ≠ D3 → (upd H7 D3 ys') b = some o := fun b o ys' e h => by rw [upd_ne h]; exact e
          refine kt _ _ _ e7D (by rw [List.length_map, hd.1]; exact Nat.lt_of_lt_of_le hi (Nat.le_trans n2 (by decide))) ⟨⟨_, rfl⟩, ds ++ [r], by rw [List.map_append]; rfl, ?_, ?_, ?_, upd_same, ?_⟩
          · intro b hb'
            rcases List.mem_append.mp hb' with z | z
            · exact hdN b z
            · rw [List.mem_singleton.mp z]; exact hrN
          · refine Holds.snoc (hd.mono fun j hj e => ?_) (keepD _ _ _ hr7 nrD)
            refine keepD _ _ _ (st7 _ _ e) (hdD _ ?_)
            rw [List.getD_eq_getElem?_getD, List.getElem?_eq_getElem (by rw [hd.1]; exact hj)]; exact List.getElem_mem _
          · intro b o e
            exact keepD _ _ _ (st7 _ _ (sm6 _ _ e)) (ne_of_none e hD3')
          · intro b hb'
            rcases List.mem_append.mp hb' with z | z
            · exact hdD b z
            · rw [List.mem_singleton.mp z]; exact nrD
        · rintro ys σ H6 ⟨_, ds, rfl, hdN, hd, sm6, hD6, hdD⟩
          have e6p := sm6 _ _ g3p
          refine ⟨_, rfl, p, C, dx, _, rfl, e6p, T.cl, T.nD, by have h1 := length_putF "tie_list" (V.ref tl) (putF "house_count" (V.int n) []); have h2 := length_putF "house_count" (V.int n) []; have h3 := length_putF "out_lists" (V.ref D2) (putF "tie_list" (V.ref tl) (putF "house_count" (V.int n) [])); simp at h2; omega, ?_⟩
          have q4 : ∀ b o u, H6 b = some o → b ≠ p → (upd H6 p u) b = some o := fun b o u e h1 => by rw [upd_ne h1]; exact e
          refine ⟨_, rfl, p, C, dx, _, _, rfl, upd_same, T.cl, T.nD, by rw [lookup_putF, if_pos rfl], D3, ds, n, fun s => NV ((List.range n).map (far (zp zs) s)), rfl, q4 _ _ _ hD6 (ne_of hD6 e6p (by intro z; cases z)), n2, hd.mono fun j hj e => q4 _ _ _ e (ne_of e e6p (by intro z; cases z)), fun j hj x hx => ?_, fun H8 s8 => ?_⟩
          · obtain ⟨y, hy, rfl⟩ := List.mem_map.mp hx
            exact ⟨_, rfl⟩
          · have up : ∀ b o, G3 b = some o → b ≠ p → H8 b = some o := fun b o e h1 => s8 _ _ (q4 _ _ _ (sm6 _ _ e) h1)
            have hD3N : H D3 = none := d3.free (some_ne g3p) tb3 hD3'
            refine k H8 ⟨fi, dx, tl, D2, D3, s8 _ _ upd_same, hD2N, hD3N, ⟨bs, up _ _ g3D (ne_of g3D g3p (by intro z; cases z)), hbN, hb3.mono fun j hj e => up _ _ e (ne_of e g3p (by intro z; cases z))⟩,
              ⟨ds, s8 _ _ (q4 _ _ _ hD6 (ne_of hD6 e6p (by intro z; cases z))), hdN, hd.mono fun j hj e => s8 _ _ (q4 _ _ _ e (ne_of e e6p (by intro z; cases z)))⟩⟩ ?_ fun b o e h1 h2 => up _ _ (d3 _ _ e h1 h2) h1
            exact tb3.mono up g3p
end
end K12
namespace K12
open PySem L2 NetM
noncomputable def goodN (n : Nat) (ts : Ts) (i j : Nat) : List Nat := (outN n ts i).filter fun o => decide (far ts o j < far ts i j)
theorem nbG : (["other", "self", "home", "own"] : List Str).Nodup := by decide +kernel
theorem nv_snoc {xs : List Nat} {x : Nat} : NV xs ++ [.int (x : Int)] = NV (xs ++ [x]) := by unfold NV; rw [List.map_append]; rfl
theorem nv_at {xs : List Nat} {i : Nat} {x : V} (h : (NV xs)[i]? = some x) : ∃ y, xs[i]? = some y ∧ x = .int (y : Int) := by
  unfold NV at h
  rw [List.getElem?_map] at h
  cases e : xs[i]? with
  | none => rw [e] at h; cases h
  | some z => rw [e] at h; exact ⟨z, rfl, (Option.some.inj h).symm⟩
theorem nv_iv {xs : List Nat} : NV xs = IV (xs.map fun (x : Nat) => (x : Int)) := by unfold NV IV; rw [List.map_map]; rfl
section
variable {P : Program} {w : World} {K : PySem.W.Frag} {mg : Str → Option Value} {base : Heap}
theorem scSpan : FnScope ["self"] ["self"] (defScope sSpan) := ⟨rfl, rfl, rfl, by decide +kernel, rfl, by decide +kernel, by decide +kernel⟩
def IsSpan (n : Nat) (ts : Ts) (M : Nat) : Prop := (∃ i j, i < n ∧ j < n ∧ M = far ts i j) ∧ ∀ i j, i < n → j < n → far ts i j ≤ M
def spSpan (C : Addr) : Sp := fun vs H Q _ => ∃ (L : Addr → Prop) (p : Addr) (n : Nat) (ts : Ts), vs = [.ref p] ∧ NetAt C H L p n ts ∧ ∀ (M : Nat) (H' : Hp), Same H H' → IsSpan n ts M → Q (.int M) H'
theorem ok_span {f C : Addr} {fd : FuncData} (F : Fun K "span" "Net.span" sSpan f fd) (T : NT K mg C) (B : Bl mg) : FnOk P w K mg base CX0 1 f fd ["self"] (spSpan C) := by
  refine F.ok scSpan (fun vs H Q E h => ?_) (fun cdv A outer s H vs Q E hr h => ?_)
  · obtain ⟨L, p, n, ts, rfl, _⟩ := h
    rfl
  · obtain ⟨L, p, n, ts, rfl, N, k⟩ := h
    obtain ⟨dx, tl, ol, ds, h1, _, _, _, R⟩ := N.ob
    have n1 := N.fine.n1
    have n2 := N.fine.n2
    obtain ⟨bs, r1, r2, r3⟩ := R
    refine' ⟨_, pss_one (ps_ret (pe_callB (call_maxL rfl) (by rfl) B.max PyProof.Rows.boot_max (pa_cons ?c pa_nil))), ?_⟩
    case c =>
      refine' pe_comp (g := gName 0) (te := tCB (rMaxL K) (tCons (tVar 0) tNil)) (NB := ["row"]) (src := [none]) (blk_of (by kernel_rfl)) rfl (pi_list (pe_fld (pv 0) rfl)) ?g ?t ?e
      case g => exact fun cl C s₃ H₃ fp => pg_name (i := 0) nbRow rfl (Or.inl rfl) (Or.inr rfl)
      case t => exact fun cl C s₃ H₃ fp => pts_nil
      case e => exact fun cl C s₃ H₃ fp => pe_callB (call_maxL rfl) (by rfl) B.max PyProof.Rows.boot_max (pa_cons (pv 0) pa_nil)
    refine ⟨_, rfl, p, C, dx, _, _, rfl, h1, T.cl, T.nD, flds_ds _ _ _ _, ds, rfl, ⟨_, SqL.of r1⟩, fun D hD => ?_⟩
    have nl : ds ≠ D := ne_of_none r1 hD
    refine comp_list (xs := bs.map V.ref) (fun i ys σ H2 => (∃ a, σ = [a]) ∧ ∃ ms : List Nat, ys = NV ms ∧ ms.length = i ∧ (∀ k (hk : k < ms.length), (∃ j, j < n ∧ ms[k] = far ts k j) ∧ ∀ j, j < n → far ts k j ≤ ms[k]) ∧ H2 = upd H D (.lst ys)) ⟨⟨_, rfl⟩, [], rfl, rfl, fun k hk => absurd hk (by simp), rfl⟩ (fun i ys σ H2 _ ⟨_, _, _, _, _, e⟩ => by rw [e]; exact SqL.of (by rw [upd_ne nl]; exact r1)) ?_ ?_
    · rintro i x ys σ H2 Kt Kf hx ⟨⟨a, rfl⟩, ms, rfl, hml, hm, rfl⟩ kt kf
      obtain ⟨hi, rfl⟩ := getAs hx
      rw [r3.1] at hi
      have hrow := r3.2 i hi
      have nb : bs.getD i 0 ≠ D := ne_of_none hrow hD
      have eRow : NV ((List.range n).map (far ts i)) = IV ((List.range n).map (fun x => ((far ts i x : Nat) : Int))) := by unfold NV IV; rw [List.map_map, List.map_map]; rfl
      refine ⟨_, rfl, _, (List.range n).map (fun x => ((far ts i x : Nat) : Int)), rfl, SqL.of (by rw [upd_ne nb]; exact hrow.trans (congrArg (fun l => some (HO.lst l)) eRow)), ?_, fun M hM1 hM2 => ?_⟩
      · intro z
        have := congrArg List.length z
        rw [List.length_map, List.length_range, List.length_nil] at this
        omega
      · obtain ⟨j, hj, rfl⟩ := List.mem_map.mp hM1
        have hj' := List.mem_range.mp hj
        refine kt _ _ _ upd_same (by rw [nv_len, hml]; exact Nat.lt_of_lt_of_le hi (Nat.le_trans n2 (by decide))) ⟨⟨_, rfl⟩, ms ++ [far ts i j], nv_snoc, by rw [List.length_append, hml]; rfl, fun k hk => ?_, by rw [upd_upd]⟩
        by_cases hk' : k < ms.length
        · rw [List.getElem_append_left hk']; exact hm k hk'
        · have : k = ms.length := by rw [List.length_append] at hk; simp at hk; omega
          subst this
          rw [List.getElem_append_right (Nat.le_refl _)]
          simp only [Nat.sub_self, List.getElem_cons_zero]
          rw [hml]
          refine ⟨⟨j, hj', rfl⟩, fun j2 hj2 => ?_⟩
          have := hM2 _ (List.mem_map.mpr ⟨j2, List.mem_range.mpr hj2, rfl⟩)
          omega
    · rintro ys σ H2 ⟨_, ms, rfl, hml, hm, rfl⟩
      rw [List.length_map, r3.1] at hml
      refine ⟨D, ms.map (fun (x : Nat) => (x : Int)), rfl, SqL.of (by rw [upd_same, nv_iv]), ?_, fun M hM1 hM2 => ?_⟩
      · intro z
        have := congrArg List.length z
        rw [List.length_map, List.length_nil] at this
        omega
      · obtain ⟨m, hmm, rfl⟩ := List.mem_map.mp hM1
        obtain ⟨k', hk', rfl⟩ := List.mem_iff_getElem.mp hmm
        refine k _ _ (same_new hD) ⟨?_, fun i j hi hj => ?_⟩
        · obtain ⟨⟨j, hj, e⟩, _⟩ := hm k' hk'
          exact ⟨k', j, by omega, hj, e⟩
        · have h1 := (hm i (by omega)).2 j hj
          have h2 := hM2 _ (List.mem_map.mpr ⟨_, List.getElem_mem (show i < ms.length by omega), rfl⟩)
          omega
theorem scGood : FnScope ["self", "house", "home", "own"] ["self", "house", "home"] (defScope sGood) := ⟨rfl, rfl, rfl, by decide +kernel, rfl, by decide +kernel, by decide +kernel⟩
def spGood (K : PySem.W.Frag) (C CE : Addr) : Sp := fun vs H Q E => ∃ (L : Addr → Prop) (p : Addr) (n : Nat) (ts : Ts) (x : V) (o : Option Int) (y : V) (o' : Option Int), vs = [.ref p, x, y] ∧ NetAt C H L p n ts ∧ Wh K H x o ∧ Wh K H y o' ∧ (within o 0 ((n : Int) - 1) = false ∨ within o' 0 ((n : Int) - 1) = false → E (.ref CE) none H) ∧
  ∀ i j : Nat, i < n → j < n → o = some (i : Int) → o' = some (j : Int) → ∀ r H', Same H H' → H r = none → H' r = some (.lst (NV (goodN n ts i j))) → Q (.ref r) H'
theorem ok_good {f C CE : Addr} {fd : FuncData} (F : Fun K "good" "Net.good" sGood f fd) (T : NT K mg C) (M : MCal P w K mg base (CXf P w) 5 C "far" ["self", "one", "other"] (spFar K C CE)) :
    FnOk P w K mg base (CXf P w) 6 f fd ["self", "house", "home"] (spGood K C CE) := by
  obtain ⟨fM, fdM, mM, bM, GM⟩ := M.ex
  refine F.okX scGood (fun vs H Q E h => ?_) (fun cdv A outer s H vs Q E hr h => ?_)
  · obtain ⟨L, p, n, ts, x, o, y, o', rfl, _⟩ := h
    rfl
  · obtain ⟨L, p, n, ts, x, o, y, o', rfl, N, wh, wh', k1, k2⟩ := h
    obtain ⟨dx, tl, ol, ds, h1, _, _, RO, R⟩ := N.ob
    have fi := N.fine
    have n2 := fi.n2
    refine' ⟨_, pss_cons (ps_set (i := 3) scGood.nd rfl (Or.inr rfl) (pe_meth (pv 0) T.cl mM GM hr bM .nil (passX (E' := E) fun _ _ _ z => z) (pa_cons (pv 1) (pa_cons (pv 2) pa_nil))))
      (pss_one (ps_ret ?c)), ?_⟩
    case c =>
      refine' pe_comp (g := gName 0) (tt := tTest (tOp (rI0 fun i j => .bl (decide (i < j))) (tOp (rIxL K) (tOp (rIxL K) (tFld K (tVar 1) "distances") (tVar 0)) (tVar 2)) (tVar 3))) (te := tVar 0) (NB := ["other", "self", "home", "own"]) (src := [none, some 0, some 2, some 3]) (blk_of (by kernel_rfl)) rfl (pi_list (pe_ix ix_list (pe_fld (pv 0) rfl) (pv 1) (fun _ _ => rfl))) ?g ?t ?e
      case g => exact fun cl C s₃ H₃ fp => pg_name (i := 0) nbG rfl (Or.inl rfl) (Or.inr rfl)
      case t => exact fun cl C s₃ H₃ fp => pts_one (pt_cmpR op_lt (pe_ix ix_list (pe_ix ix_list (pe_fld (pv 1) rfl) (pv 0) (fun _ _ => rfl)) (pv 2) (fun _ _ => rfl)) (pv 3) (nomark _))
      case e => exact fun cl C s₃ H₃ fp => pv 0
    refine ⟨_, rfl, p, dx, _, rfl, h1, nfar _ _ _ _, _, rfl, _, rfl, L, p, n, ts, x, o, y, o', rfl, N, wh, wh', k1, fun i j hi hj ei ej => ?_⟩
    subst ei; subst ej
    obtain rfl := wh_int wh
    obtain rfl := wh_int wh'
    obtain ⟨bs, b, r1, r2, r3, _⟩ := RO.row hi
    refine ⟨_, rfl, p, C, dx, _, _, rfl, h1, T.cl, T.nO, flds_ol _ _ _ _, _, rfl, ol, _, _, _, rfl, rfl, SqL.of r1, atI_nat r2, b, rfl, ⟨_, SqL.of r3⟩, fun D hD => ?_⟩
    have nb : b ≠ D := ne_of_none r3 hD
    refine comp_list (xs := NV (outN n ts i)) (fun m ys σ H2 => (∃ a, σ = [a, some (.ref p), some (.int (j : Int)), some (.int ((far ts i j : Nat) : Int))]) ∧ ys = NV (((outN n ts i).take m).filter fun o => decide (far ts o j < far ts i j)) ∧ H2 = upd H D (.lst ys)) ⟨⟨_, rfl⟩, by simp, rfl⟩ (fun m ys σ H2 _ ⟨_, _, e⟩ => by rw [e]; exact SqL.of (by rw [upd_ne nb]; exact r3)) ?_ ?_
    · rintro m x ys σ H2 Kt Kf hx ⟨⟨a, rfl⟩, ey, rfl⟩ kt kf
      obtain ⟨v, hv, rfl⟩ := nv_at hx
      have hvm : v ∈ outN n ts i := List.mem_of_getElem? hv
      have hvn : v < n := outN_lt fi hi hvm
      have sm : Same H (upd H D (.lst ys)) := same_new hD
      obtain ⟨bs2, b2, q1, q2, q3, _⟩ := R.row hvn
      have hg : (NV ((List.range n).map (far ts v)))[j]? = some (.int (far ts v j : Nat)) := by
        rw [List.getElem?_map, List.getElem?_map, List.getElem?_range hj]; rfl
      have tk : (outN n ts i).take (m + 1) = (outN n ts i).take m ++ [v] := by rw [List.take_add_one, hv]; rfl
      have hm : m < (outN n ts i).length := (List.getElem?_eq_some_iff.mp hv).1
      refine ⟨_, rfl, p, C, dx, _, _, rfl, sm _ _ h1, T.cl, T.nD, flds_ds _ _ _ _, _, rfl, ds, _, _, _, rfl, rfl, SqL.of (sm _ _ q1), atI_nat q2, _, rfl, b2, _, _, _, rfl, rfl, SqL.of (sm _ _ q3), atI_nat hg, _, rfl, _, _, rfl, rfl, _, rfl, ?_⟩
      refine ite2 (fun e => ?_) (fun e => ?_)
      · refine ⟨_, rfl, kt _ _ _ upd_same ?_ ⟨⟨_, rfl⟩, ?_, by rw [upd_upd]⟩⟩
        · rw [ey, nv_len]
          refine Nat.lt_of_le_of_lt (List.length_filter_le _ _) (Nat.lt_of_le_of_lt (List.length_take_le _ _) (Nat.lt_of_lt_of_le (show m < 33 from ?_) (by decide)))
          have : (outN n ts i).length ≤ n := Nat.le_trans (List.length_filter_le _ _) (by simp)
          omega
        · have : decide (far ts v j < far ts i j) = true := by simp at e ⊢; omega
          rw [ey, tk, List.filter_append, nv_snoc]
          simp [List.filter_cons, this]
      · refine kf _ _ ⟨⟨_, rfl⟩, ?_, rfl⟩
        have : decide (far ts v j < far ts i j) = false := by simp at e ⊢; omega
        rw [ey, tk, List.filter_append]
        simp [List.filter_cons, this]
    · rintro ys σ H2 ⟨_, ey, rfl⟩
      rw [nv_len, List.take_length] at ey
      refine k2 i j hi hj rfl rfl D _ (same_new hD) hD ?_
      rw [upd_same, ey]
      rfl
end
end K12
namespace K12
open PySem L2 NetM
abbrev sPot : Stmt := top 33
abbrev sDigit : Stmt := top 34
abbrev sSome : Stmt := top 35
def PotAt (H : Hp) (p : Addr) : Prop := ∃ a b : Int, H p = some (.lst [.int a, .int b]) ∧ 0 ≤ a ∧ 0 ≤ b ∧ b < 2147483647
theorem PotAt.same {H H' : Hp} {p : Addr} (h : PotAt H p) (s : Same H H') : PotAt H' p := let ⟨a, b, e, r⟩ := h; ⟨a, b, s _ _ e, r⟩
theorem PotAt.full {H : Hp} {p : Addr} (h : PotAt H p) : H p ≠ none := by obtain ⟨a, b, e, _⟩ := h; rw [e]; intro z; cases z
theorem PotAt.ne {H : Hp} {p q : Addr} (h : PotAt H p) (e : H q = none) : q ≠ p := by rintro rfl; exact h.full e
theorem PotAt.put {H : Hp} {p q : Addr} {o : HO} (h : PotAt H p) (n : p ≠ q) : PotAt (upd H q o) p := let ⟨a, b, e, r⟩ := h; ⟨a, b, by rw [upd_ne n]; exact e, r⟩
theorem PotAt.neT {H : Hp} {p q : Addr} {xs : List V} (h : PotAt H p) (e : H q = some (.tup xs)) : q ≠ p := by rintro rfl; obtain ⟨a, b, z, _⟩ := h; rw [e] at z; cases z
theorem PO.sameE {H H' : Hp} {p : Addr} {zs : Zs} (h : PO H zs) (s : SameE p H H') (hp : PotAt H p) : PO H' zs := fun z hz => s _ _ (h z hz) (hp.neT (h z hz))
theorem eraseIdx_map' {α β : Type} (f : α → β) : ∀ (l : List α) (i : Nat), (l.map f).eraseIdx i = (l.eraseIdx i).map f
  | [], _ => rfl
  | _ :: _, 0 => rfl
  | a :: l, i + 1 => by rw [List.map_cons, List.eraseIdx_cons_succ, List.eraseIdx_cons_succ, List.map_cons, eraseIdx_map' f l i]
theorem eraseIdx_perm {α : Type} : ∀ {l : List α} {i : Nat} (h : i < l.length), (l[i] :: l.eraseIdx i).Perm l
  | a :: l, 0, _ => List.Perm.refl _
  | a :: l, i + 1, h => by
    rw [List.eraseIdx_cons_succ]
    have := eraseIdx_perm (l := l) (i := i) (by simpa using h)
    exact (List.Perm.swap _ _ _).trans (this.cons a)
theorem nbS : (["_law_k", "_law_left", "_law_pot_here"] : List Str).Nodup := by decide +kernel
section
variable {P : Program} {w : World} {K : PySem.W.Frag} {mg : Str → Option Value} {base : Heap}
theorem scPot : FnScope ["_law_script", "_law_k", "_law_cell"] ["_law_script", "_law_k"] (defScope sPot) := ⟨rfl, rfl, rfl, by decide +kernel, rfl, by decide +kernel, by decide +kernel⟩
def spPot (K : PySem.W.Frag) : Sp := fun vs H Q _ => ∃ (a : Addr) (ns : List Int) (k : Nat), vs = [.ref a, .int k] ∧ SqL K H a (ns.map V.int) ∧ k < 64 ∧ ∀ (r : Addr) (H' : Hp), Same H H' → H r = none → PotAt H' r → Q (.ref r) H'
theorem pow_lt {x : Int} (h0 : 0 ≤ x) (h1 : x < 2 ^ 63) : x.natAbs < 2 ^ 64 := by omega
theorem ok_pot {f : Addr} {fd : FuncData} (F : Fun K "_law_pot" "_law_pot" sPot f fd) (B : Bl mg) : FnOk P w K mg base CX0 1 f fd ["_law_script", "_law_k"] (spPot K) := by
  refine F.ok scPot (fun vs H Q E h => ?_) (fun cdv A outer s H vs Q E hr h => ?_)
  · obtain ⟨a, ns, k, rfl, _⟩ := h
    rfl
  · obtain ⟨a, ns, k, rfl, hS, hk, q⟩ := h
    refine ⟨_, pss_cons (ps_set (i := 2) scPot.nd rfl (Or.inl rfl) pe_int)
      (pss_cons (ps_if (pt_cmpR op_lt (pv 1) (pe_callB call_len_seq (by rfl) B.len PySem.boot_len (pa_cons (pv 0) pa_nil)) (nomark _)) (pss_one (ps_set (i := 2) scPot.nd rfl (Or.inl rfl) (pe_ix ix_list (pv 0) (pv 1) (fun _ _ => rfl)))) pss_nil)
      (pss_one (ps_ret (pe_lst (pa_cons (pe_callB (call_max2 rfl) (by rfl) B.max PyProof.Rows.boot_max (pa_cons pe_int (pa_cons (pe_op op_sub (pv 2) (pe_op op_pow pe_int pe_int)) pa_nil)))
        (pa_cons (pe_op op_mod (pe_op op_pow (pe_op op_add (pe_op op_mod (pv 2) pe_int) (pe_op op_mul pe_int (pe_op op_add (pv 1) pe_int))) pe_int) pe_int) pa_nil)))))), ?_⟩
    have fin : ∀ c : Int, tRet (tLst (tCons (tCB (fun xs H Q => ∃ i j, xs = [V.int i, .int j] ∧ Q (.int (if j > i then j else i)) H) (tCons (tC (.int 0)) (tCons (tOp (rI0 fun i j => .int (i - j)) (tVar 2) (tOp (rI CPow fun i j => .int (i ^ j.toNat)) (tC (.int 10)) (tC (.int 18)))) tNil)))
        (tCons (tOp (rI (fun _ j => 0 < j) fun i j => .int (i % j)) (tOp (rI CPow fun i j => .int (i ^ j.toNat)) (tOp (rI0 fun i j => .int (i + j)) (tOp (rI (fun _ j => 0 < j) fun i j => .int (i % j)) (tVar 2) (tC (.int 2147483629))) (tOp (rI CMul fun i j => .int (i * j)) (tC (.int 7919)) (tOp (rI0 fun i j => .int (i + j)) (tVar 1) (tC (.int 1))))) (tC (.int 3))) (tC (.int 2147483647))) tNil)))
        { nx := fun _ H' => Q .non H', rt := Q } [some (.ref a), some (.int k), some (.int c)] H := fun c => by
      have m0 : 0 ≤ c % 2147483629 := Int.emod_nonneg _ (by decide)
      have m1 : c % 2147483629 < 2147483629 := Int.emod_lt_of_pos _ (by decide)
      refine ⟨_, rfl, _, _, rfl, rfl, ⟨by decide, by decide, by decide⟩, _, _, rfl, rfl, 0, _, rfl, ?_⟩
      refine ⟨_, rfl, _, _, rfl, rfl, (by show (0 : Int) < 2147483629; decide), _, rfl, _, _, rfl, rfl, _, _, rfl, rfl, .inl ⟨by decide, by decide⟩, _, _, rfl, rfl, _, _, rfl, rfl, ⟨by decide, by decide, ?_⟩, _, _, rfl, rfl, (by show (0 : Int) < 2147483647; decide), by show 2 ≤ sizeLine; decide, fun r hr' => ?_⟩
      · refine pow_lt (by omega) (by omega)
      · refine q r _ (same_new hr') hr' ⟨_, _, upd_same, ?_, Int.emod_nonneg _ (by decide), Int.emod_lt_of_pos _ (by decide)⟩
        split <;> omega
    refine ⟨_, rfl, _, rfl, a, ns.map V.int, rfl, .inl hS, _, _, rfl, rfl, _, rfl, ?_⟩
    refine ite2 (fun e => ?_) (fun e => ?_)
    · have hlt : k < ns.length := by
        have : (k : Int) < ((ns.map V.int).length : Int) := by simpa using e
        rw [List.length_map] at this; omega
      refine ⟨_, rfl, _, rfl, a, _, _, _, rfl, rfl, hS, atI_nat (v := .int ns[k]) (by rw [List.getElem?_map, List.getElem?_eq_getElem hlt]; rfl), ?_⟩
      exact fin _
    · exact fin _
theorem scDigit : FnScope ["_law_pot_here", "_law_many", "_law_digit_here"] ["_law_pot_here", "_law_many"] (defScope sDigit) := ⟨rfl, rfl, rfl, by decide +kernel, rfl, by decide +kernel, by decide +kernel⟩
def spDigit : Sp := fun vs H Q _ => ∃ (p : Addr) (m : Nat), vs = [.ref p, .int m] ∧ 0 < m ∧ m < 1000000 ∧ PotAt H p ∧ ∀ (d : Nat) (H' : Hp), d < m → SameE p H H' → PotAt H' p → Q (.int d) H'
theorem ok_digit {f : Addr} {fd : FuncData} (F : Fun K "_law_digit" "_law_digit" sDigit f fd) : FnOk P w K mg base CX0 1 f fd ["_law_pot_here", "_law_many"] spDigit := by
  refine F.ok scDigit (fun vs H Q E h => ?_) (fun cdv A outer s H vs Q E hr h => ?_)
  · obtain ⟨p, m, rfl, _⟩ := h
    rfl
  · obtain ⟨p, m', rfl, m0', m1', ⟨a, b, hp, a0, b0, b1⟩, q'⟩ := h
    generalize hm : ((m' : Nat) : Int) = m
    have m0 : 0 < m := by omega
    have m1 : m < 1000000 := by omega
    have q : ∀ (d a b : Int), 0 ≤ d → d < m → 0 ≤ a → 0 ≤ b → b < 2147483647 → Q (.int d) (upd H p (.lst [.int a, .int b])) := fun d a b h1 h2 h3 h4 h5 => by
      have := q' d.toNat _ (by omega) SameE.upd ⟨a, b, upd_same, h3, h4, h5⟩
      rw [Int.toNat_of_nonneg h1] at this
      exact this
    refine ⟨_, pss_cons (ps_if (pt_cmpR op_gt (pe_ix ix_list (pv 0) pe_int (fun _ _ => rfl)) pe_int (nomark _))
        (pss_cons (ps_set (i := 2) scDigit.nd rfl (Or.inl rfl) (pe_op op_mod (pe_ix ix_list (pv 0) pe_int (fun _ _ => rfl)) (pv 1)))
        (pss_cons (ps_asg (pe_op op_fdiv (pe_ix ix_list (pv 0) pe_int (fun _ _ => rfl)) (pv 1)) (pg_sub (pv 0) pe_int set_list))
        (pss_one (ps_ret (pv 2))))) pss_nil)
      (pss_cons (ps_asg (pe_op op_mod (pe_op op_add (pe_op op_mul (pe_ix ix_list (pv 0) pe_int (fun _ _ => rfl)) pe_int) pe_int) pe_int) (pg_sub (pv 0) pe_int set_list))
      (pss_one (ps_ret (pe_op op_mod (pe_op op_fdiv (pe_op op_mod (pe_op op_pow (pe_ix ix_list (pv 0) pe_int (fun _ _ => rfl)) pe_int) pe_int) pe_int) (pv 1))))), ?_⟩
    have g0 : atI [V.int a, V.int b] 0 = some (.int a) := atI_nat (j := 0) rfl
    have g1 : atI [V.int a, V.int b] 1 = some (.int b) := atI_nat (j := 1) rfl
    refine ⟨_, rfl, p, _, _, _, rfl, rfl, SqL.of hp, g0, _, _, rfl, rfl, _, rfl, ?_⟩
    refine ite2 (fun e => ?_) (fun e => ?_)
    · refine ⟨_, rfl, p, _, _, _, rfl, rfl, SqL.of hp, g0, _, rfl, _, _, rfl, rfl, m0, ?_⟩
      refine ⟨_, rfl, p, _, _, _, rfl, rfl, SqL.of hp, g0, _, rfl, _, _, rfl, rfl, ⟨m0, by omega⟩, ?_⟩
      refine ⟨_, rfl, p, _, 0, 0, rfl, rfl, hp, ixN_nat (j := 0) (by show 0 < 2; decide), ?_⟩
      refine ⟨_, rfl, ?_⟩
      exact q _ _ _ (Int.emod_nonneg _ (by omega)) (Int.emod_lt_of_pos _ m0) (Int.ediv_nonneg a0 (by omega)) b0 b1
    · refine ⟨_, rfl, p, _, _, _, rfl, rfl, SqL.of hp, g1, _, _, rfl, rfl, .inl ⟨by omega, by omega⟩, _, _, rfl, rfl, _, _, rfl, rfl, (by show (0 : Int) < 2147483647; decide), ?_⟩
      refine ⟨_, rfl, p, _, 1, 1, rfl, rfl, hp, ixN_nat (j := 1) (by show 1 < 2; decide), ?_⟩
      have c0 : 0 ≤ (b * 48271 + 11) % 2147483647 := Int.emod_nonneg _ (by decide)
      have c1 : (b * 48271 + 11) % 2147483647 < 2147483647 := Int.emod_lt_of_pos _ (by decide)
      refine ⟨_, rfl, p, _, _, _, rfl, rfl, SqL.of upd_same, atI_nat (j := 1) rfl, _, _, rfl, rfl, ⟨by decide, by decide, pow_lt c0 (by omega)⟩, _, _, rfl, rfl, (by show (0 : Int) < 2147483629; decide), _, _, rfl, rfl, ⟨by decide, by decide⟩, _, rfl, _, _, rfl, rfl, m0, ?_⟩
      exact q _ _ _ (Int.emod_nonneg _ (by omega)) (Int.emod_lt_of_pos _ m0) a0 c0 c1
theorem scSome : FnScope ["_law_pot_here", "_law_many", "_law_count", "_law_left"] ["_law_pot_here", "_law_many", "_law_count"] (defScope sSome) := ⟨rfl, rfl, rfl, by decide +kernel, rfl, by decide +kernel, by decide +kernel⟩
def Some (m : Nat) (xs : List Nat) : Prop := ∃ ls : List Nat, (ls ++ xs).Perm (List.range m)
def spSome : Sp := fun vs H Q _ => ∃ (p : Addr) (m c : Nat), vs = [.ref p, .int m, .int c] ∧ c ≤ m ∧ m ≤ 1000 ∧ PotAt H p ∧ ∀ (r : Addr) (xs : List Nat) (H' : Hp), SameE p H H' → PotAt H' p → H r = none → H' r = some (.lst (NV xs)) → Some m xs → xs.length = c → Q (.ref r) H'
abbrev rLen (K : PySem.W.Frag) : List V → Hp → VK → Prop := fun xs H Q => ∃ p ys, xs = [V.ref p] ∧ (SqL K H p ys ∨ SqT K H p ys) ∧ Q (.int ys.length) H
theorem ok_some {f : Addr} {fd : FuncData} (F : Fun K "_law_some" "_law_some" sSome f fd) (B : Bl mg) (D : Cal P w K mg base CX0 1 "_law_digit" ["_law_pot_here", "_law_many"] spDigit) : FnOk P w K mg base CX0 2 f fd ["_law_pot_here", "_law_many", "_law_count"] spSome := by
  refine F.ok scSome (fun vs H Q E h => ?_) (fun cdv A outer s H vs Q E hr h => ?_)
  · obtain ⟨p, m, c, rfl, _⟩ := h
    rfl
  · obtain ⟨p, m, c, rfl, hcm, hm, hp, q⟩ := h
    refine' ⟨_, pss_cons (ps_set (i := 3) scSome.nd rfl (Or.inr rfl) (pe_callTy (call_listR rfl) (by rfl) B.lst PyProof.Rows.boot_list (pa_cons (pe_callTy call_rangeV (by rfl) B.range PyProof.Rows.boot_range (pa_cons (pv 1) pa_nil)) pa_nil)))
      (pss_one (ps_ret ?c)), ?_⟩
    case c =>
      refine' pe_comp (g := gName 0) (te := tBM K "list" rPopAt (tVar 1) (tCons (tCall spDigit [] E0 (tCons (tVar 2) (tCons (tCB (rLen K) (tCons (tVar 1) tNil)) tNil))) tNil)) (NB := ["_law_k", "_law_left", "_law_pot_here"]) (src := [none, some 3, some 0]) (blk_of (by kernel_rfl)) rfl
        (pi_range1 rfl B.range (pa_cons (pv 2) pa_nil)) ?g ?t ?e
      case g => exact fun cl C s₃ H₃ fp => pg_name (i := 0) nbS rfl (Or.inl rfl) (Or.inr rfl)
      case t => exact fun cl C s₃ H₃ fp => pts_nil
      case e => exact fun cl C s₃ H₃ fp => pe_bm PySem.F.plainAttrs_list PySem.F.slot_list_pop PySem.F.type_list_pop mt_popAt (pv 1) (pa_cons (pe_cal D hr pass0 (pa_cons (pv 2) (pa_cons (pe_callB call_len_seq (by rfl) B.len PySem.boot_len (pa_cons (pv 1) pa_nil)) pa_nil))) pa_nil)
    refine ⟨_, rfl, m, rfl, fun R hR => ⟨R, m, rfl, upd_same, hm, fun L hL => ?_⟩⟩
    have s0 : Same H (upd (upd H R (.rng 0 m)) L (.lst ((List.range m).map fun (i : Nat) => V.int i))) := (same_new hR).trans (same_new hL)
    have hLH : H L = none := (same_new hR).free hL
    refine ⟨_, rfl, c, rfl, by omega, by omega, fun D' hD => ?_⟩
    have hDH : H D' = none := s0.free hD
    have npL : L ≠ p := hp.ne hLH
    have npD : D' ≠ p := hp.ne hDH
    have nLD : L ≠ D' := ne_of_none upd_same hD
    refine comp_range (n := c) (lo := 0) (fun i ys σ H2 => (∃ k, σ = [k, some (.ref L), some (.ref p)]) ∧ (∃ ls xs : List Nat, ys = NV xs ∧ H2 L = some (.lst (NV ls)) ∧ (ls ++ xs).Perm (List.range m) ∧ xs.length = i) ∧ SameE p H H2 ∧ PotAt H2 p ∧ H2 D' = some (.lst ys))
      ⟨⟨_, rfl⟩, ⟨List.range m, [], rfl, by rw [upd_ne nLD, upd_same], by rw [List.append_nil], rfl⟩, fun b o e h => ?_, ?_, upd_same⟩ ?_ ?_
    · rw [upd_ne (ne_of_none (s0 _ _ e) hD)]; exact s0 _ _ e
    · exact (hp.same s0).same (same_new hD)
    · rintro i ys σ H2 Kt Kf hi ⟨⟨k', rfl⟩, ⟨ls, xs, rfl, hL2, pm, lx⟩, sm, hp2, hD2⟩ kt kf
      have hls : ls.length + i = m := by have := pm.length_eq; rw [List.length_append, List.length_range, lx] at this; exact this
      refine ⟨_, rfl, .inl ⟨rfl, _, SqL.of hL2⟩, _, rfl, _, rfl, L, NV ls, rfl, .inl (SqL.of hL2), p, ls.length, by rw [nv_len]; rfl, by omega, by omega, hp2, fun d H3 hd se hp3 => ?_⟩
      have e3L : H3 L = some (.lst (NV ls)) := se _ _ hL2 npL
      have e3D : H3 D' = some (.lst (NV xs)) := se _ _ hD2 npD
      refine ⟨L, NV ls, d, d, .int ((ls[d] : Nat) : Int), rfl, rfl, e3L, by omega, by omega, ?_, nv_get hd, ?_⟩
      · exact (ixN_seq (ixN_nat (by rw [nv_len]; exact hd))).1
      · have nDL : D' ≠ L := nLD.symm
        refine kt _ _ _ (by rw [upd_ne nDL]; exact e3D) (by rw [nv_len, lx]; exact Nat.lt_of_lt_of_le (show i < 1001 by omega) (by decide)) ⟨⟨_, rfl⟩, ⟨ls.eraseIdx d, xs ++ [ls[d]], nv_snoc, ?_, ?_, by rw [List.length_append, lx]; rfl⟩, fun b' o e h => ?_, ?_, upd_same⟩
        · rw [upd_ne nLD, upd_same]
          congr 2
          unfold NV
          exact eraseIdx_map' _ _ _
        · refine List.Perm.trans ?_ pm
          have h1 : (ls[d] :: ls.eraseIdx d).Perm ls := eraseIdx_perm hd
          rw [← List.append_assoc]
          refine List.perm_append_singleton _ _ |>.trans ?_
          rw [← List.cons_append]
          exact h1.append_right xs
        · rw [upd_ne (ne_of_none e hDH), upd_ne (ne_of_none e hLH)]; exact se _ _ (sm _ _ e h) h
        · exact (hp3.put npL.symm).put npD.symm
    · rintro ys σ H2 ⟨_, ⟨ls, xs, rfl, _, pm, lx⟩, sm, hp2, hD2⟩
      exact q D' xs H2 sm hp2 hDH hD2 ⟨ls, pm⟩ lx
end
end K12
namespace K12
open PySem L2 NetM
theorem gname_k {i : Nat} {v : V} {σ : St} {H : Hp} {k : St → Hp → Prop} (h : k (σ.set i (some v)) H) : gName i v σ H k := h
theorem seq1_k {t u : TS} {D : Ends} {σ : St} {H : Hp} (h : t { D with nx := fun σ H => u D σ H } σ H) : tSeq t u D σ H := h
theorem comp_fz {K : PySem.W.Frag} {a D : Addr} {zs : Zs} {g : TG} {tt : TT} {te : TE} {fin : Hp → Prop} {σB : St} {H0 : Hp} (c : Int × Int → Bool) (shape : St → Prop) (ha : H0 a = some (.lst (zr zs))) (hD : H0 D = none) (hn : zs.length ≤ 1000) (h0 : shape σB)
    (hs : ∀ z σ H (Kt : V → St → Hp → Prop) (Kf : St → Hp → Prop), z ∈ zs → shape σ → Same H0 H → (∀ σ2 H2, shape σ2 → Same H H2 → c z.2 = true → Kt (.ref z.1) σ2 H2) → (∀ σ2 H2, shape σ2 → Same H H2 → c z.2 = false → Kf σ2 H2) →
      g (.ref z.1) σ H fun σ2 H2 => tt σ2 H2 fun b H3 => if b = true then te σ2 H3 fun v H4 => Kt v σ2 H4 else Kf σ2 H3)
    (hd : ∀ H, Same H0 H → H D = some (.lst (zr (zs.filter fun z => c z.2))) → fin H) : CompW (Itl K a) g tt te D fin σB (upd H0 D (.lst [])) := by
  refine comp_list (xs := zr zs) (fun i ys σ H => shape σ ∧ Same H0 H ∧ H D = some (.lst ys) ∧ ys = zr ((zs.take i).filter fun z => c z.2)) ⟨h0, same_new hD, upd_same, rfl⟩ (fun i ys σ H _ z => SqL.of (z.2.1 _ _ ha)) ?_ ?_
  · rintro i x ys σ H Kt Kf hx ⟨sh, sm, hDl, rfl⟩ kt kf
    obtain ⟨z, hz, rfl⟩ := zr_get hx
    have hi : i < zs.length := (List.getElem?_eq_some_iff.mp hz).1
    have tk : zs.take (i + 1) = zs.take i ++ [z] := by rw [List.take_add_one, hz]; rfl
    refine hs z σ H Kt Kf (List.mem_of_getElem? hz) sh sm (fun σ2 H2 sh2 s2 e => ?_) (fun σ2 H2 sh2 s2 e => ?_)
    · refine kt _ _ _ (s2 _ _ hDl) ?_ ⟨sh2, same_put (sm.trans s2) hD, upd_same, ?_⟩
      · rw [zr_len]
        exact Nat.lt_of_le_of_lt (List.length_filter_le _ _) (Nat.lt_of_le_of_lt (List.length_take_le _ _) (Nat.lt_of_lt_of_le (show i < 1000 by omega) (by decide)))
      · rw [tk, List.filter_append, zr_append]
        simp [List.filter_cons, e, zr]
    · refine kf _ _ ⟨sh2, sm.trans s2, s2 _ _ hDl, ?_⟩
      rw [tk, List.filter_append]
      simp [List.filter_cons, e]
  · rintro ys σ H ⟨_, sm, hDl, rfl⟩
    rw [zr_len, List.take_length] at hDl
    exact hd H sm hDl
theorem comp_fn {K : PySem.W.Frag} {a D : Addr} {xs : List Nat} {g : TG} {tt : TT} {te : TE} {fin : Hp → Prop} {σB : St} {H0 : Hp} (c : Nat → Bool) (shape : St → Prop) (ha : H0 a = some (.lst (NV xs))) (hD : H0 D = none) (hn : xs.length ≤ 1000) (h0 : shape σB)
    (hs : ∀ x σ H (Kt : V → St → Hp → Prop) (Kf : St → Hp → Prop), x ∈ xs → shape σ → Same H0 H → (∀ σ2 H2, shape σ2 → Same H H2 → c x = true → Kt (.int (x : Nat)) σ2 H2) → (∀ σ2 H2, shape σ2 → Same H H2 → c x = false → Kf σ2 H2) →
      g (.int (x : Nat)) σ H fun σ2 H2 => tt σ2 H2 fun b H3 => if b = true then te σ2 H3 fun v H4 => Kt v σ2 H4 else Kf σ2 H3)
    (hd : ∀ H, Same H0 H → H D = some (.lst (NV (xs.filter c))) → fin H) : CompW (Itl K a) g tt te D fin σB (upd H0 D (.lst [])) := by
  refine comp_list (xs := NV xs) (fun i ys σ H => shape σ ∧ Same H0 H ∧ H D = some (.lst ys) ∧ ys = NV ((xs.take i).filter c)) ⟨h0, same_new hD, upd_same, rfl⟩ (fun i ys σ H _ z => SqL.of (z.2.1 _ _ ha)) ?_ ?_
  · rintro i x ys σ H Kt Kf hx ⟨sh, sm, hDl, rfl⟩ kt kf
    obtain ⟨z, hz, rfl⟩ := nv_at hx
    have hi : i < xs.length := (List.getElem?_eq_some_iff.mp hz).1
    have tk : xs.take (i + 1) = xs.take i ++ [z] := by rw [List.take_add_one, hz]; rfl
    refine hs z σ H Kt Kf (List.mem_of_getElem? hz) sh sm (fun σ2 H2 sh2 s2 e => ?_) (fun σ2 H2 sh2 s2 e => ?_)
    · refine kt _ _ _ (s2 _ _ hDl) ?_ ⟨sh2, same_put (sm.trans s2) hD, upd_same, ?_⟩
      · rw [nv_len]
        exact Nat.lt_of_le_of_lt (List.length_filter_le _ _) (Nat.lt_of_le_of_lt (List.length_take_le _ _) (Nat.lt_of_lt_of_le (show i < 1000 by omega) (by decide)))
      · rw [tk, List.filter_append, nv_snoc]
        simp [List.filter_cons, e]
    · refine kf _ _ ⟨sh2, sm.trans s2, s2 _ _ hDl, ?_⟩
      rw [tk, List.filter_append]
      simp [List.filter_cons, e]
  · rintro ys σ H ⟨_, sm, hDl, rfl⟩
    rw [nv_len, List.take_length] at hDl
    exact hd H sm hDl
theorem comp_fq {K : PySem.W.Frag} {a D : Addr} {zs : Zs} {g : TG} {tt : TT} {te : TE} {fin : Hp → Prop} {σB : St} {H0 : Hp} (c : Int × Int → Bool) (q : Int × Int → Int) (shape : St → Prop) (ha : H0 a = some (.lst (zr zs))) (hD : H0 D = none) (hn : zs.length ≤ 1000) (h0 : shape σB)
    (hs : ∀ z σ H (Kt : V → St → Hp → Prop) (Kf : St → Hp → Prop), z ∈ zs → shape σ → Same H0 H → (∀ σ2 H2, shape σ2 → Same H H2 → c z.2 = true → Kt (.int (q z.2)) σ2 H2) → (∀ σ2 H2, shape σ2 → Same H H2 → c z.2 = false → Kf σ2 H2) →
      g (.ref z.1) σ H fun σ2 H2 => tt σ2 H2 fun b H3 => if b = true then te σ2 H3 fun v H4 => Kt v σ2 H4 else Kf σ2 H3)
    (hd : ∀ H, Same H0 H → H D = some (.lst (IV (((zp zs).filter c).map q))) → fin H) : CompW (Itl K a) g tt te D fin σB (upd H0 D (.lst [])) := by
  refine comp_list (xs := zr zs) (fun i ys σ H => shape σ ∧ Same H0 H ∧ H D = some (.lst ys) ∧ ys = IV ((((zp zs).take i).filter c).map q)) ⟨h0, same_new hD, upd_same, rfl⟩ (fun i ys σ H _ z => SqL.of (z.2.1 _ _ ha)) ?_ ?_
  · rintro i x ys σ H Kt Kf hx ⟨sh, sm, hDl, rfl⟩ kt kf
    obtain ⟨z, hz, rfl⟩ := zr_get hx
    have hi : i < zs.length := (List.getElem?_eq_some_iff.mp hz).1
    have tk : (zp zs).take (i + 1) = (zp zs).take i ++ [z.2] := by rw [List.take_add_one, show (zp zs)[i]? = some z.2 by unfold zp; rw [List.getElem?_map, hz]; rfl]; rfl
    refine hs z σ H Kt Kf (List.mem_of_getElem? hz) sh sm (fun σ2 H2 sh2 s2 e => ?_) (fun σ2 H2 sh2 s2 e => ?_)
    · refine kt _ _ _ (s2 _ _ hDl) ?_ ⟨sh2, same_put (sm.trans s2) hD, upd_same, ?_⟩
      · rw [List.length_map, List.length_map]
        exact Nat.lt_of_le_of_lt (List.length_filter_le _ _) (Nat.lt_of_le_of_lt (List.length_take_le _ _) (Nat.lt_of_lt_of_le (show i < 1000 by omega) (by decide)))
      · rw [tk, List.filter_append, List.map_append]
        simp [List.filter_cons, e]
    · refine kf _ _ ⟨sh2, sm.trans s2, s2 _ _ hDl, ?_⟩
      rw [tk, List.filter_append]
      simp [List.filter_cons, e]
  · rintro ys σ H ⟨_, sm, hDl, rfl⟩
    rw [zr_len, ← zp_len, List.take_length] at hDl
    exact hd H sm hDl
theorem allEq_nil {e : V → V → Bool} : ∀ {xs : List V}, allEq e xs [] = decide (xs = [])
  | [] => rfl
  | x :: xs => by simp [allEq]
theorem zp_filter {zs : Zs} {c : Int × Int → Bool} : zp (zs.filter fun z => c z.2) = (zp zs).filter c := by
  unfold zp
  rw [List.filter_map]; rfl
theorem zr_filter_len {zs : Zs} {c : Int × Int → Bool} : (zr (zs.filter fun z => c z.2)).length = ((zp zs).filter c).length := by rw [zr_len, ← zp_len, zp_filter]
theorem nv_prev {xs : List Nat} {k : Nat} (h : k < xs.length) : atI (NV xs) ((k : Int) - 1) = some (.int ((xs.getD (pk xs.length k) 0 : Nat) : Int)) := by
  unfold pk
  by_cases k0 : k = 0
  · subst k0
    rw [if_pos rfl]
    have e : NV xs = NV (xs.take (xs.length - 1)) ++ [.int ((xs.getD (xs.length - 1) 0 : Nat) : Int)] := by
      rw [nv_snoc]
      congr 1
      conv => lhs; rw [← List.take_append_drop (xs.length - 1) xs]
      rw [List.drop_eq_getElem_cons (by omega), List.drop_eq_nil_of_le (by omega), getD_eq (by omega)]
    rw [e]
    exact atI_last _ _
  · rw [if_neg k0, show (k : Int) - 1 = ((k - 1 : Nat) : Int) by omega]
    exact atI_nat (by rw [getD_eq (by omega)]; exact nv_get (by omega))
theorem Some.nd {m : Nat} {xs : List Nat} (h : Some m xs) : xs.Nodup := let ⟨ls, p⟩ := h; (List.nodup_append.mp (p.nodup_iff.mpr List.nodup_range)).2.1
theorem Some.lt {m : Nat} {xs : List Nat} (h : Some m xs) : ∀ x ∈ xs, x < m := fun x hx => let ⟨ls, p⟩ := h; List.mem_range.mp (p.mem_iff.mp (List.mem_append_right _ hx))
theorem Some.all {m : Nat} {xs : List Nat} (h : Some m xs) (hl : xs.length = m) : xs.Perm (List.range m) := by
  obtain ⟨ls, p⟩ := h
  have := p.length_eq
  rw [List.length_append, List.length_range, hl] at this
  have : ls = [] := List.length_eq_zero_iff.mp (by omega)
  subst this
  simpa using p
abbrev sRound : Stmt := top 36
theorem nbRa : (["_law_k", "_law_some_here"] : List Str).Nodup := by decide +kernel
theorem nbRb : (["_law_one", "_law_other", "_law_ties"] : List Str).Nodup := by decide +kernel
theorem nbRc : (["_law_tie", "_law_one"] : List Str).Nodup := by decide +kernel
theorem nbRd : (["_law_tie", "_law_ties"] : List Str).Nodup := by decide +kernel
section
variable {P : Program} {w : World} {K : PySem.W.Frag} {mg : Str → Option Value} {base : Heap}
theorem scRound : FnScope ["_law_pot_here", "_law_many", "_law_ties", "_law_some_here", "_law_more", "_law_full"] ["_law_pot_here", "_law_many", "_law_ties"] (defScope sRound) := ⟨rfl, rfl, rfl, by decide +kernel, rfl, by decide +kernel, by decide +kernel⟩
structure Tl (p : Addr) (H : Hp) (l : Addr) (n : Nat) (zs : Zs) : Prop where
  t : TiesAt H l n zs
  ne : l ≠ p
def spRound : Sp := fun vs H Q _ => ∃ (p : Addr) (n : Nat) (l : Addr) (zs : Zs), vs = [.ref p, .int n, .ref l] ∧ PotAt H p ∧ Tl p H l n zs ∧ ∀ (r : Addr) (zs' : Zs) (H' : Hp), SameE p H H' → PotAt H' p → Tl p H' r n zs' → Q (.ref r) H'
theorem ok_round {f : Addr} {fd : FuncData} (F : Fun K "_law_round" "_law_round" sRound f fd) (B : Bl mg) (D : Cal P w K mg base CX0 1 "_law_digit" ["_law_pot_here", "_law_many"] spDigit) (SM : Cal P w K mg base CX0 2 "_law_some" ["_law_pot_here", "_law_many", "_law_count"] spSome) :
    FnOk P w K mg base CX0 3 f fd ["_law_pot_here", "_law_many", "_law_ties"] spRound := by
  refine F.ok scRound (fun vs H Q E h => ?_) (fun cdv A outer s H vs Q E hr h => ?_)
  · obtain ⟨p, n, l, zs, rfl, _⟩ := h
    rfl
  · obtain ⟨p, n, l, zs, rfl, hp, ⟨TT, lne⟩, q⟩ := h
    have hu : (A.deeper (PyProof.Rows.envOfC "_law_round" (defScope sRound) s.heap.objs.size f cdv)).units + 2 < cLine := by have := hr.un; omega
    refine' ⟨_, pss_cons (ps_set (i := 3) scRound.nd rfl (Or.inr rfl) (pe_cal SM hr pass0 (pa_cons (pv 0) (pa_cons (pv 1) (pa_cons (pe_op op_add pe_int (pe_cal D (hr.mono (by decide)) pass0 (pa_cons (pv 0) (pa_cons (pe_callB (call_min2 rfl) (by rfl) B.min PyProof.Rows.boot_min (pa_cons pe_int (pa_cons (pe_op op_sub (pv 1) pe_int) pa_nil))) pa_nil)))) pa_nil)))))
      (pss_cons (ps_setComp (i := 4) (g := gName 0) (te := tTup (tCons (tOp (rIxL K) (tVar 1) (tOp (rI0 fun i j => .int (i - j)) (tVar 0) (tC (.int 1)))) (tCons (tOp (rIxL K) (tVar 1) (tVar 0)) tNil))) (NB := ["_law_k", "_law_some_here"]) (src := [none, some 3]) (blk_of (by kernel_rfl)) rfl (pi_range1 rfl B.range (pa_cons (pe_callB call_len_seq (by rfl) B.len PySem.boot_len (pa_cons (pv 3) pa_nil)) pa_nil)) ?g1 ?t1 ?e1 scRound.nd rfl rfl rfl)
      (pss_cons (ps_setComp (i := 5) (g := gTup K 2 (gCons (gName 0) (gCons (gName 1) gNil))) (tt := tTest (tOp (rI0 fun i j => .bl (decide (i > j))) (tCB (rLen K) (tCons (tComp [none, some 0] (iList K (tVar 2)) (gName 0) (tTest (tOp rEq (tOp (rIxT K) (tVar 0) (tC (.int 0))) (tVar 1))) (tVar 0)) tNil)) (tC (.int 7)))) (te := tVar 0) (NB := ["_law_one", "_law_other", "_law_ties"]) (src := [none, none, some 2]) (blk_of (by kernel_rfl)) rfl (pi_list (pv 4)) ?g2 ?t2 ?e2 scRound.nd rfl rfl rfl)
      (pss_cons (ps_if (PW.pt (pw_and (pt_cmpR (op_eqL (e := eqV) hu) (pv 5) (pe_lst pa_nil) (nomark _)) (pw_and1 (pt_cmpR (op_eqL (e := eqV) hu) ?c3 (pe_lst pa_nil) (nomark _))))) (pss_one (ps_ret (pe_op op_cat (pv 2) (pv 4)))) pss_nil)
      (pss_one (ps_ret (pv 2)))))), ?_⟩
    case g1 => exact fun cl C s₃ H₃ fp => pg_name (i := 0) nbRa rfl (Or.inl rfl) (Or.inr rfl)
    case t1 => exact fun cl C s₃ H₃ fp => pts_nil
    case e1 => exact fun cl C s₃ H₃ fp => pe_tup (pa_cons (pe_ix ix_list (pv 1) (pe_op op_sub (pv 0) pe_int) (fun _ _ => rfl)) (pa_cons (pe_ix ix_list (pv 1) (pv 0) (fun _ _ => rfl)) pa_nil))
    case g2 => exact fun cl C s₃ H₃ fp => pg_tup (n := 2) rfl (pgs_cons (pg_name (i := 0) nbRb rfl (Or.inr rfl) (Or.inl rfl)) (pgs_cons (pg_name (i := 1) nbRb rfl (Or.inl rfl) (Or.inr rfl)) pgs_nil))
    case t2 =>
      intro cl C s₃ H₃ fp
      refine' pts_one (pt_cmpR op_gt (pe_callB call_len_seq (by rfl) B.len PySem.boot_len (pa_cons ?c pa_nil)) pe_int (nomark _))
      case c =>
        refine' pe_comp (g := gName 0) (tt := tTest (tOp rEq (tOp (rIxT K) (tVar 0) (tC (.int 0))) (tVar 1))) (te := tVar 0) (NB := ["_law_tie", "_law_one"]) (src := [none, some 0]) (blk_of (by kernel_rfl)) rfl (pi_list (pv 2)) ?g ?t ?e
        case g => exact fun cl C s₃ H₃ fp => pg_name (i := 0) nbRc rfl (Or.inl rfl) (Or.inr rfl)
        case t => exact fun cl C s₃ H₃ fp => pts_one (pt_cmpR op_eq (pe_ix ix_tup (pv 0) pe_int (fun _ _ => rfl)) (pv 1) (nomark _))
        case e => exact fun cl C s₃ H₃ fp => pv 0
    case e2 => exact fun cl C s₃ H₃ fp => pv 0
    case c3 =>
      refine' pe_comp (g := gName 0) (tt := tTest (tOp (rInP K false) (tVar 0) (tVar 1))) (te := tVar 0) (NB := ["_law_tie", "_law_ties"]) (src := [none, some 2]) (blk_of (by kernel_rfl)) rfl (pi_list (pv 4)) ?g ?t ?e
      case g => exact fun cl C s₃ H₃ fp => pg_name (i := 0) nbRd rfl (Or.inl rfl) (Or.inr rfl)
      case t => exact fun cl C s₃ H₃ fp => pts_one (pt_cmpR (op_inP hu) (pv 0) (pv 1) rfl)
      case e => exact fun cl C s₃ H₃ fp => pv 0
    obtain ⟨fi, hl, po⟩ := id TT
    have n1 := fi.n1
    have n2 := fi.n2
    have hlen : zs.length ≤ 256 := by have := fi.len; rw [zp_len] at this; exact this
    have em : (if (n : Int) - 1 < 4 then (n : Int) - 1 else 4) = ((min 4 (n - 1) : Nat) : Int) := by split <;> omega
    refine ⟨_, rfl, _, rfl, _, rfl, _, rfl, _, _, rfl, rfl, _, _, rfl, p, min 4 (n - 1), by rw [em]; rfl, by omega, by omega, hp, fun d H1 hd s1 hp1 => ?_⟩
    refine ⟨_, _, rfl, rfl, p, n, 2 + d, (show [V.ref p, V.int (n : Int), V.int ((2 : Int) + (d : Int))] = [V.ref p, V.int (n : Int), V.int (((2 + d : Nat)) : Int)] by rw [show (2 : Int) + (d : Int) = ((2 + d : Nat) : Int) by omega]), by omega, by omega, hp1, fun r xs H2 s2 hp2 hr2 hx sm lx => ?_⟩
    have s12 : SameE p H H2 := s1.trans s2
    have hl2 : H2 l = some (.lst (zr zs)) := s12 _ _ hl lne
    have po2 : PO H2 zs := po.sameE s12 hp
    refine ⟨_, rfl, r, _, rfl, .inl (SqL.of hx), (xs.length : Nat), by rw [nv_len], by omega, by omega, fun M hM => ?_⟩
    refine comp_mkR (lo := 0) (n := xs.length) (fun k => (ci (xs.getD (pk xs.length k) 0), ci (xs.getD k 0))) (fun σ => ∃ a, σ = [a, some (.ref r)]) hM (by omega) ⟨_, rfl⟩ ?_ ?_
    · rintro i σ H3 R Kf hi ⟨a, rfl⟩ sm3 kk
      have hx3 := sm3 _ _ hx
      refine ⟨_, rfl, _, rfl, _, _, rfl, rfl, r, _, _, _, rfl, rfl, SqL.of hx3, by rw [Int.zero_add]; exact nv_prev hi, _, rfl, _, rfl, r, _, _, _, rfl, rfl, SqL.of hx3, by rw [Int.zero_add]; exact atI_nat (nv_get hi), by show 2 ≤ sizeLine; decide, fun t ht => ?_⟩
      have := kk [some (.int (0 + (i : Int))), some (.ref r)] t ⟨_, rfl⟩ ht
      rw [getD_eq hi] at this
      exact this
    · intro zs2 H3 sm3 hM3 po3 ez
      have ez' : zp zs2 = cyc xs := ez
      have hl2' : zs2.length = xs.length := by rw [← zp_len, ez', show (cyc xs).length = xs.length by unfold cyc; simp]
      have hl3 := sm3 _ _ hl2
      have p3 : PO H3 zs := po2.same sm3
      refine ⟨_, rfl, M, rfl, ⟨_, SqL.of hM3⟩, fun D1 hD1 => ?_⟩
      refine comp_fq (fun t => decide (((zp zs).filter fun u => decide (u.1 = t.1)).length > 7)) (·.1) (fun σ => ∃ a b, σ = [a, b, some (.ref l)]) hM3 hD1 (by omega) ⟨_, _, rfl⟩ ?_ ?_
      · rintro z σ H4 Kt Kf hz ⟨a, b, rfl⟩ sm4 kt kf
        have hz4 := sm4 _ _ (po3 z hz)
        refine ⟨z.1, _, rfl, SqT.of hz4, rfl, _, _, rfl, _, _, rfl, rfl, ?_⟩
        refine ⟨_, rfl, l, rfl, ⟨_, SqL.of (sm4 _ _ hl3)⟩, fun D2 hD2 => ?_⟩
        refine comp_fz (fun u => decide (u.1 = z.2.1)) (fun σ => ∃ a, σ = [a, some (.int z.2.1)]) (sm4 _ _ hl3) hD2 (by omega) ⟨_, rfl⟩ ?_ ?_
        · rintro y σ H5 Kt' Kf' hy ⟨a', rfl⟩ sm5 kt' kf'
          have hy5 := sm5 _ _ (sm4 _ _ (p3 y hy))
          refine ⟨_, rfl, y.1, _, _, _, rfl, rfl, SqT.of hy5, atI_nat (j := 0) rfl, _, rfl, rfl, _, rfl, ?_⟩
          refine ite2 (fun e => ?_) (fun e => ?_)
          · exact ⟨_, rfl, kt' _ _ ⟨_, rfl⟩ (Same.refl _) (by simpa using e)⟩
          · exact kf' _ _ ⟨_, rfl⟩ (Same.refl _) (by simpa using e)
        · intro H5 sm5 hD5
          refine ⟨D2, _, rfl, .inl (SqL.of hD5), _, _, rfl, rfl, _, rfl, ?_⟩
          have eL : (zr (zs.filter fun y => decide (y.2.1 = z.2.1))).length = ((zp zs).filter fun u => decide (u.1 = z.2.1)).length := zr_filter_len (c := fun u => decide (u.1 = z.2.1))
          refine ite2 (fun e => ?_) (fun e => ?_)
          · refine ⟨_, rfl, kt _ _ ⟨_, _, rfl⟩ sm5 ?_⟩
            have e' : (((zr (zs.filter fun y => decide (y.2.1 = z.2.1))).length : Nat) : Int) > 7 := by simpa using e
            rw [eL] at e'
            simp only [decide_eq_true_eq]; omega
          · refine kf _ _ ⟨_, _, rfl⟩ sm5 ?_
            have e' : ¬ (((zr (zs.filter fun y => decide (y.2.1 = z.2.1))).length : Nat) : Int) > 7 := by simpa using e
            rw [eL] at e'
            simp only [decide_eq_false_iff_not]; omega
      · intro H4 sm4 hD4
        have hl4 := sm4 _ _ hl3
        have hM4 := sm4 _ _ hM3
        have p4 : PO H4 zs := p3.same sm4
        have po4 : PO H4 zs2 := po3.same sm4
        have s24 : Same H2 H4 := sm3.trans sm4
        refine gname_k ?_
        dsimp only
        refine seq1_k ?_
        refine if_k (fun Hc => Same H4 Hc ∧ (∀ t ∈ cyc xs, ((zp zs).filter fun u => decide (u.1 = t.1)).length ≤ 7) ∧ ∀ t ∈ cyc xs, t ∉ zp zs) (fun Hc => Same H4 Hc) ?_ ?_ ?_
        · rintro Hc ⟨smc, h7, hnew⟩
          have hlc := smc _ _ hl4
          have hMc := smc _ _ hM4
          have fi' : Fine n (zp zs ++ cyc xs) := fi.app (round_pre fi.pre sm.nd sm.lt (by omega) h7 hnew)
          refine ⟨_, rfl, _, rfl, l, M, _, _, rfl, rfl, hlc, hMc, ?_, fun r3 hr3 => ?_⟩
          · rw [zr_len, zr_len, hl2', lx]
            exact Nat.le_trans (show zs.length + (2 + d) ≤ 300 by omega) (by decide)
          · have s2c : Same H2 (upd Hc r3 (.lst (zr zs ++ zr zs2))) := (s24.trans smc).trans (same_new hr3)
            have r3n : H2 r3 = none := (s24.trans smc).free hr3
            refine q r3 (zs ++ zs2) _ (s12.trans (SameE.of s2c)) (hp2.same s2c) ⟨⟨by rw [zp_append, ez']; exact fi', by rw [upd_same, zr_append], ?_⟩, hp2.ne r3n⟩
            exact ((p4.same smc).append (po4.same smc)).putN hr3
        · rintro Hc smc
          refine ⟨_, rfl, ?_⟩
          have s2c : Same H2 Hc := s24.trans smc
          exact q l zs _ (s12.trans (SameE.of s2c)) (hp2.same s2c) ⟨⟨fi, smc _ _ hl4, p4.same smc⟩, lne⟩
        · intro Y N hY hN
          refine ⟨_, rfl, by show 0 ≤ sizeLine; decide, fun L1 hL1 => ?_⟩
          have sL1 : Same H4 (upd H4 L1 (.lst [])) := same_new hL1
          refine ⟨D1, L1, _, [], rfl, rfl, SqL.of (sL1 _ _ hD4), SqL.of upd_same, fun i h1 h2 => absurd h2 (by simp), _, rfl, ?_⟩
          rw [if_neg Bool.false_ne_true, allEq_nil]
          by_cases hfull : IV (((zp zs2).filter fun t => decide (((zp zs).filter fun u => decide (u.1 = t.1)).length > 7)).map (·.1)) = []
          · rw [decide_eq_true hfull]
            refine iteT ?_
            refine ⟨_, rfl, M, rfl, ⟨_, SqL.of (sL1 _ _ hM4)⟩, fun D2 hD2 => ?_⟩
            refine comp_fz (fun u => decide (u ∈ zp zs)) (fun σ => ∃ a, σ = [a, some (.ref l)]) (sL1 _ _ hM4) hD2 (by omega) ⟨_, rfl⟩ ?_ ?_
            · rintro y σ H5 Kt' Kf' hy ⟨a', rfl⟩ sm5 kt' kf'
              have hy5 := sm5 _ _ (sL1 _ _ (po4 y hy))
              refine ⟨_, rfl, _, rfl, inP_of hy5 (sm5 _ _ (sL1 _ _ hl4)) ((p4.same sL1).same sm5) ⟨_, rfl, ?_⟩⟩
              rw [if_neg Bool.false_ne_true]
              refine ite2 (fun e => ?_) (fun e => ?_)
              · exact ⟨_, rfl, kt' _ _ ⟨_, rfl⟩ (Same.refl _) (by simpa using e)⟩
              · exact kf' _ _ ⟨_, rfl⟩ (Same.refl _) (by simpa using e)
            · intro H5 sm5 hD5
              refine ⟨by show 0 ≤ sizeLine; decide, fun L2 hL2 => ?_⟩
              have sL2 : Same H5 (upd H5 L2 (.lst [])) := same_new hL2
              refine ⟨D2, L2, _, [], rfl, rfl, SqL.of (sL2 _ _ hD5), SqL.of upd_same, fun i h1 h2 => absurd h2 (by simp), _, rfl, ?_⟩
              rw [if_neg Bool.false_ne_true, allEq_nil]
              have s4c : Same H4 (upd H5 L2 (.lst [])) := (sL1.trans sm5).trans sL2
              by_cases hin : zr (zs2.filter fun y => decide (y.2 ∈ zp zs)) = []
              · rw [decide_eq_true hin]
                refine iteT (hY _ ⟨s4c, fun t ht => ?_, fun t ht hz => ?_⟩)
                · have hf : (zp zs2).filter (fun t => decide (((zp zs).filter fun u => decide (u.1 = t.1)).length > 7)) = [] := by
                    have := List.map_eq_nil_iff.mp (List.map_eq_nil_iff.mp hfull)
                    exact this
                  have := List.filter_eq_nil_iff.mp hf t (by rw [ez']; exact ht)
                  simp only [decide_eq_true_eq] at this
                  omega
                · have hf : zs2.filter (fun y => decide (y.2 ∈ zp zs)) = [] := List.map_eq_nil_iff.mp hin
                  rw [← ez'] at ht
                  obtain ⟨y, hy, rfl⟩ := List.mem_map.mp ht
                  have := List.filter_eq_nil_iff.mp hf y hy
                  simp only [decide_eq_true_eq] at this
                  exact this hz
              · rw [decide_eq_false hin]
                exact iteF (hN _ s4c)
          · rw [decide_eq_false hfull]
            exact iteF (hN _ sL1)
end
end K12
namespace K12
open PySem L2 NetM
theorem cut_take {js : List Nat} {k : Nat} : cutV (NV js) none (some (k : Int)) = NV (js.take k) := by
  have h1 : HT.sIx (NV js).length 0 none = 0 := rfl
  have h2 : HT.sIx (NV js).length (NV js).length (some (k : Int)) = min k js.length := by
    unfold HT.sIx
    simp
    try omega
  unfold cutV
  rw [h1, h2, List.drop_zero, Nat.sub_zero]
  unfold NV
  rw [List.map_take, List.take_eq_take_iff]
  simp
  try omega
abbrev sTree : Stmt := top 37
theorem nbTa : (["_law_house", "_law_ties"] : List Str).Nodup := by decide +kernel
theorem nbTb : (["_law_tie", "_law_house"] : List Str).Nodup := by decide +kernel
section
variable {P : Program} {w : World} {K : PySem.W.Frag} {mg : Str → Option Value} {base : Heap}
theorem scTree : FnScope ["_law_pot_here", "_law_many", "_law_order", "_law_ties", "_law_k", "_law_free", "_law_stem"] ["_law_pot_here", "_law_many"] (defScope sTree) := ⟨rfl, rfl, rfl, by decide +kernel, rfl, by decide +kernel, by decide +kernel⟩
def spTree : Sp := fun vs H Q _ => ∃ (p : Addr) (n : Nat), vs = [.ref p, .int n] ∧ PotAt H p ∧ 2 ≤ n ∧ n ≤ 32 ∧ ∀ (r : Addr) (zs : Zs) (H' : Hp), SameE p H H' → PotAt H' p → Tl p H' r n zs → Q (.ref r) H'
theorem ok_tree {f : Addr} {fd : FuncData} (F : Fun K "_law_tree" "_law_tree" sTree f fd) (B : Bl mg) (D : Cal P w K mg base CX0 1 "_law_digit" ["_law_pot_here", "_law_many"] spDigit) (SM : Cal P w K mg base CX0 2 "_law_some" ["_law_pot_here", "_law_many", "_law_count"] spSome) :
    FnOk P w K mg base CX0 3 f fd ["_law_pot_here", "_law_many"] spTree := by
  refine F.ok scTree (fun vs H Q E h => ?_) (fun cdv A outer s H vs Q E hr h => ?_)
  · obtain ⟨p, n, rfl, _⟩ := h
    rfl
  · obtain ⟨p, n, rfl, hp, n1, n2, q⟩ := h
    refine' ⟨_, pss_cons (ps_set (i := 2) scTree.nd rfl (Or.inl rfl) (pe_cal SM hr pass0 (pa_cons (pv 0) (pa_cons (pv 1) (pa_cons (pv 1) pa_nil)))))
      (pss_cons (ps_set (i := 3) scTree.nd rfl (Or.inr rfl) (pe_lst pa_nil))
      (pss_cons (ps_for PassesOwn.never rfl (pi_range2 rfl B.range (pa_cons pe_int (pa_cons (pv 1) pa_nil))) (pg_name (i := 4) scTree.nd rfl (Or.inl rfl))
        (pss_cons (ps_setComp (i := 5) (g := gName 0) (tt := tTest (tOp (rI0 fun i j => .bl (decide (i < j))) (tCB (rLen K) (tCons (tComp [none, some 0] (iList K (tVar 1)) (gName 0) (tTest (tOp rEq (tOp (rIxT K) (tVar 0) (tC (.int 0))) (tVar 1))) (tVar 0)) tNil)) (tC (.int 8)))) (te := tVar 0) (NB := ["_law_house", "_law_ties"]) (src := [none, some 3]) (blk_of (by kernel_rfl)) rfl (pi_list (pe_slice sl_list (pv 2) po_none (po_some (pv 4)))) ?g1 ?t1 ?e1 scTree.nd rfl rfl rfl)
        (pss_cons (ps_set (i := 6) scTree.nd rfl (Or.inl rfl) (pe_ix ix_list (pv 5) (pe_cal D (hr.mono (by decide)) pass0 (pa_cons (pv 0) (pa_cons (pe_callB call_len_seq (by rfl) B.len PySem.boot_len (pa_cons (pv 5) pa_nil)) pa_nil))) (fun _ _ => rfl)))
        (pss_one (ps_set (i := 3) scTree.nd rfl (Or.inr rfl) (pe_op op_cat (pv 3) (pe_lst (pa_cons (pe_tup (pa_cons (pv 6) (pa_cons (pe_ix ix_list (pv 2) (pv 4) (fun _ _ => rfl)) pa_nil))) (pa_cons (pe_tup (pa_cons (pe_ix ix_list (pv 2) (pv 4) (fun _ _ => rfl)) (pa_cons (pv 6) pa_nil))) pa_nil)))))))))
      (pss_one (ps_ret (pv 3))))), ?_⟩
    case g1 => exact fun cl C s₃ H₃ fp => pg_name (i := 0) nbTa rfl (Or.inr rfl) (Or.inl rfl)
    case t1 =>
      intro cl C s₃ H₃ fp
      refine' pts_one (pt_cmpR op_lt (pe_callB call_len_seq (by rfl) B.len PySem.boot_len (pa_cons ?c pa_nil)) pe_int (nomark _))
      case c =>
        refine' pe_comp (g := gName 0) (tt := tTest (tOp rEq (tOp (rIxT K) (tVar 0) (tC (.int 0))) (tVar 1))) (te := tVar 0) (NB := ["_law_tie", "_law_house"]) (src := [none, some 0]) (blk_of (by kernel_rfl)) rfl (pi_list (pv 1)) ?g ?t ?e
        case g => exact fun cl C s₃ H₃ fp => pg_name (i := 0) nbTb rfl (Or.inl rfl) (Or.inr rfl)
        case t => exact fun cl C s₃ H₃ fp => pts_one (pt_cmpR op_eq (pe_ix ix_tup (pv 0) pe_int (fun _ _ => rfl)) (pv 1) (nomark _))
        case e => exact fun cl C s₃ H₃ fp => pv 0
    case e1 => exact fun cl C s₃ H₃ fp => pv 0
    refine ⟨_, rfl, _, rfl, _, rfl, p, n, n, rfl, by omega, by omega, hp, fun O os H1 s1 hp1 hO1 hO so lo => ?_⟩
    have pm := so.all lo
    have nd := so.nd
    have lt := so.lt
    have nO : O ≠ p := hp.ne hO1
    refine ⟨by show 0 ≤ sizeLine; decide, fun L0 hL0 => ?_⟩
    have nL0 : L0 ≠ p := hp1.ne hL0
    refine ⟨_, rfl, 1, (n : Int), rfl, ⟨by decide, by decide, by omega, by omega⟩, ?_⟩
    rw [show ((n : Int) - 1).toNat = n - 1 by omega]
    refine for_range (lo := 1) (n := n - 1) (fun i σ Hc => ∃ (L : Addr) (zs : Zs), (∃ a b c, σ = [some (.ref p), some (.int n), some (.ref O), some (.ref L), a, b, c]) ∧ SameE p H Hc ∧ PotAt Hc p ∧ Hc O = some (.lst (NV os)) ∧ L ≠ p ∧ Hc L = some (.lst (zr zs)) ∧ PO Hc zs ∧ Tree n os (i + 1) (zp zs))
      ⟨L0, [], ⟨none, none, none, rfl⟩, s1.trans (SameE.of (same_new hL0)), hp1.same (same_new hL0), same_new hL0 _ _ hO, nL0, upd_same, PO.nil, Tree.start (by omega)⟩ ?_ ?_
    · rintro i σ Hc hi ⟨L, zs, ⟨a, b, c, rfl⟩, sc, hpc, hOc, nL, hLc, po, Tr⟩
      have hzl : zs.length + 2 = 2 * (i + 1) := by have := Tr.len; rw [zp_len] at this; exact this
      have e1 : (1 : Int) + (i : Int) = ((i + 1 : Nat) : Int) := by omega
      rw [e1]
      refine ⟨_, rfl, _, rfl, _, rfl, O, _, rfl, SqL.of hOc, fun S hS => ?_⟩
      rw [cut_take]
      have smS : Same Hc (upd Hc S (.lst (NV (os.take (i + 1))))) := same_new hS
      generalize hHs : upd Hc S (.lst (NV (os.take (i + 1)))) = Hs at smS
      have hSs : Hs S = some (.lst (NV (os.take (i + 1)))) := by rw [← hHs]; exact upd_same
      refine ⟨S, rfl, ⟨_, SqL.of hSs⟩, fun D1 hD1 => ?_⟩
      refine comp_fn (fun x => decide (((zp zs).filter fun u => decide (u.1 = ci x)).length < 8)) (fun σ => ∃ a, σ = [a, some (.ref L)]) hSs hD1 (by rw [List.length_take]; omega) ⟨_, rfl⟩ ?_ ?_
      · rintro x σ H4 Kt Kf hx ⟨a', rfl⟩ sm4 kt kf
        have hL4 := sm4 _ _ (smS _ _ hLc)
        have po4 : PO H4 zs := (po.same smS).same sm4
        refine ⟨_, rfl, L, rfl, ⟨_, SqL.of hL4⟩, fun D2 hD2 => ?_⟩
        refine comp_fz (fun u => decide (u.1 = ci x)) (fun σ => ∃ a, σ = [a, some (.int (x : Int))]) hL4 hD2 (by omega) ⟨_, rfl⟩ ?_ ?_
        · rintro y σ H5 Kt' Kf' hy ⟨a'', rfl⟩ sm5 kt' kf'
          have hy5 := sm5 _ _ (po4 y hy)
          refine ⟨_, rfl, y.1, _, _, _, rfl, rfl, SqT.of hy5, atI_nat (j := 0) rfl, _, rfl, rfl, _, rfl, ?_⟩
          refine ite2 (fun e => ?_) (fun e => ?_)
          · exact ⟨_, rfl, kt' _ _ ⟨_, rfl⟩ (Same.refl _) (by simpa using e)⟩
          · exact kf' _ _ ⟨_, rfl⟩ (Same.refl _) (by simpa using e)
        · intro H5 sm5 hD5
          refine ⟨D2, _, rfl, .inl (SqL.of hD5), _, _, rfl, rfl, _, rfl, ?_⟩
          have eL : (zr (zs.filter fun y => decide (y.2.1 = ci x))).length = ((zp zs).filter fun u => decide (u.1 = ci x)).length := zr_filter_len (c := fun u => decide (u.1 = ci x))
          refine ite2 (fun e => ?_) (fun e => ?_)
          · refine ⟨_, rfl, kt _ _ ⟨_, rfl⟩ sm5 ?_⟩
            have e' : (((zr (zs.filter fun y => decide (y.2.1 = ci x))).length : Nat) : Int) < 8 := by simpa using e
            rw [eL] at e'
            simp only [decide_eq_true_eq]; omega
          · refine kf _ _ ⟨_, rfl⟩ sm5 ?_
            have e' : ¬ (((zr (zs.filter fun y => decide (y.2.1 = ci x))).length : Nat) : Int) < 8 := by simpa using e
            rw [eL] at e'
            simp only [decide_eq_false_iff_not]; omega
      · intro H4 sm4 hD4
        generalize hfr : (os.take (i + 1)).filter (fun x => decide (((zp zs).filter fun u => decide (u.1 = ci x)).length < 8)) = fr at hD4
        have hfr0 : 0 < fr.length := by
          obtain ⟨h, hh, hd⟩ := Tr.free nd (by omega)
          refine List.length_pos_of_mem (a := h) ?_
          rw [← hfr]
          exact List.mem_filter.mpr ⟨hh, by simpa using hd⟩
        have hfrl : fr.length ≤ 1000 := by
          rw [← hfr]
          exact Nat.le_trans (List.length_filter_le _ _) (by rw [List.length_take]; omega)
        have sc4 : Same Hc H4 := smS.trans sm4
        have hpot4 : PotAt H4 p := hpc.same sc4
        have nD1 : D1 ≠ p := (hpc.same smS).ne hD1
        refine ⟨_, rfl, _, rfl, _, rfl, D1, _, rfl, .inl (SqL.of hD4), p, fr.length, by rw [nv_len]; rfl, hfr0, by omega, hpot4, fun d H5 hd s5 hp5 => ?_⟩
        have hD5 := s5 _ _ hD4 nD1
        refine ⟨D1, _, _, _, rfl, rfl, SqL.of hD5, atI_nat (nv_get hd), ?_⟩
        have hst : fr[d] ∈ fr := List.getElem_mem hd
        generalize fr[d] = st at hst
        rw [← hfr] at hst
        obtain ⟨st1, st2⟩ := List.mem_filter.mp hst
        simp only [decide_eq_true_eq] at st2
        have hv : os[i + 1]? = some os[i + 1] := List.getElem?_eq_getElem (by omega)
        generalize os[i + 1]'(by omega) = v at hv
        have s05 : SameE p Hc H5 := (SameE.of sc4).trans s5
        have hO5 := s05 _ _ hOc nO
        have hL5 := s05 _ _ hLc nL
        have po5 : PO H5 zs := po.sameE s05 hpc
        have gO : atI (NV os) ((i + 1 : Nat) : Int) = some (.int (v : Int)) := atI_nat (by rw [List.getElem?_map, hv]; rfl)
        refine ⟨_, rfl, _, rfl, _, rfl, _, rfl, O, _, _, _, rfl, rfl, SqL.of hO5, gO, by show 2 ≤ sizeLine; decide, fun t1 ht1 => ?_⟩
        have sA := same_new (o := .tup [.int (st : Int), .int (v : Int)]) ht1
        refine ⟨_, rfl, _, rfl, O, _, _, _, rfl, rfl, SqL.of (sA _ _ hO5), gO, _, rfl, by show 2 ≤ sizeLine; decide, fun t2 ht2 => ?_⟩
        have sB := sA.trans (same_new (o := .tup [.int (v : Int), .int (st : Int)]) ht2)
        refine ⟨by show 2 ≤ sizeLine; decide, fun M hM => ?_⟩
        have sC := sB.trans (same_new (o := .lst [.ref t1, .ref t2]) hM)
        refine ⟨L, M, _, _, rfl, rfl, sC _ _ hL5, upd_same, ?_, fun L' hL' => ?_⟩
        · rw [zr_len]
          exact Nat.le_trans (show zs.length + 2 ≤ 200 by omega) (by decide)
        · have sD := sC.trans (same_new (o := .lst (zr zs ++ [.ref t1, .ref t2])) hL')
          refine ⟨L', zs ++ [(t1, (ci st, ci v)), (t2, (ci v, ci st))], ⟨_, _, _, rfl⟩, (sc.trans s05).trans (SameE.of sD), hp5.same sD, sD _ _ hO5, hp5.ne (sC.free hL'), ?_, ?_, ?_⟩
          · rw [upd_same, zr_append]; rfl
          · refine (po5.same sD).append fun z hz => ?_
            have e1 : (upd H5 t1 (.tup [.int (st : Int), .int (v : Int)])) t1 = some (prT (ci st, ci v)) := upd_same
            have e2 : (upd (upd H5 t1 (.tup [.int (st : Int), .int (v : Int)])) t2 (.tup [.int (v : Int), .int (st : Int)])) t2 = some (prT (ci v, ci st)) := upd_same
            rcases List.mem_cons.mp hz with rfl | hz
            · exact same_new hL' _ _ (same_new hM _ _ (same_new ht2 _ _ e1))
            · obtain rfl := List.mem_singleton.mp hz
              exact same_new hL' _ _ (same_new hM _ _ e2)
          · rw [zp_append]
            exact Tr.add nd lt hv st1 st2
    · rintro σ Hc ⟨L, zs, ⟨a, b, c, rfl⟩, sc, hpc, hOc, nL, hLc, po, Tr⟩
      rw [show n - 1 + 1 = n by omega] at Tr
      exact ⟨_, rfl, q L zs Hc sc hpc ⟨⟨Tr.fine n1 n2 pm, hLc, po⟩, nL⟩⟩
end
end K12
namespace K12
open PySem L2 NetM
abbrev sNet : Stmt := top 38
abbrev sLeads : Stmt := top 39
theorem nbNa : (["_law_k", "_law_order"] : List Str).Nodup := by decide +kernel
theorem nbNb : (["_law_k", "_law_ties"] : List Str).Nodup := by decide +kernel
theorem nbLa : (["_law_step", "_law_house", "_law_many", "_law_ties"] : List Str).Nodup := by decide +kernel
theorem map_getD_range {α : Type} (zs : List α) (d : α) : (List.range zs.length).map (fun k => zs.getD k d) = zs := by
  apply List.ext_getElem
  · simp
  · intro i h1 h2
    simp only [List.getElem_map, List.getElem_range]
    rw [List.getD_eq_getElem?_getD, List.getElem?_eq_getElem h2]; rfl
theorem pick_perm {zs : Zs} {xs : List Nat} (h : xs.Perm (List.range zs.length)) : (xs.map fun k => zs.getD k (0, (0, 0))).Perm zs := by
  have := h.map fun k => zs.getD k (0, (0, 0))
  rw [map_getD_range] at this
  exact this
theorem Tl.sameE {p : Addr} {H H' : Hp} {l : Addr} {n : Nat} {zs : Zs} (t : Tl p H l n zs) (s : SameE p H H') (hp : PotAt H p) : Tl p H' l n zs := ⟨⟨t.t.fine, s _ _ t.t.at_ t.ne, t.t.po.sameE s hp⟩, t.ne⟩
section
variable {P : Program} {w : World} {K : PySem.W.Frag} {mg : Str → Option Value} {base : Heap}
theorem scNet : FnScope ["_law_pot_here", "_law_way", "_law_many", "_law_rounds", "_law_ties", "_law_order", "_law_k"] ["_law_pot_here"] (defScope sNet) := ⟨rfl, rfl, rfl, by decide +kernel, rfl, by decide +kernel, by decide +kernel⟩
def spNet : Sp := fun vs H Q _ => ∃ (p : Addr), vs = [.ref p] ∧ PotAt H p ∧ ∀ (t r : Addr) (n : Nat) (zs : Zs) (H' : Hp), SameE p H H' → PotAt H' p → H' t = some (.tup [.int n, .ref r]) → Tl p H' r n zs → H r = none → Q (.ref t) H'
theorem ok_net {f : Addr} {fd : FuncData} (F : Fun K "_law_net" "_law_net" sNet f fd) (B : Bl mg) (D : Cal P w K mg base CX0 1 "_law_digit" ["_law_pot_here", "_law_many"] spDigit) (SM : Cal P w K mg base CX0 2 "_law_some" ["_law_pot_here", "_law_many", "_law_count"] spSome)
    (TR : Cal P w K mg base CX0 3 "_law_tree" ["_law_pot_here", "_law_many"] spTree) (RD : Cal P w K mg base CX0 3 "_law_round" ["_law_pot_here", "_law_many", "_law_ties"] spRound) :
    FnOk P w K mg base CX0 4 f fd ["_law_pot_here"] spNet := by
  refine F.ok scNet (fun vs H Q E h => ?_) (fun cdv A outer s H vs Q E hr h => ?_)
  · obtain ⟨p, rfl, _⟩ := h
    rfl
  · obtain ⟨p, rfl, hp, q⟩ := h
    have hr1 : Room 1 _ := hr.mono (by decide)
    have hr2 : Room 2 _ := hr.mono (by decide)
    refine' ⟨_, pss_cons (ps_set (i := 1) scNet.nd rfl (Or.inl rfl) (pe_cal D hr1 pass0 (pa_cons (pv 0) (pa_cons pe_int pa_nil))))
      (pss_cons (ps_set (i := 2) scNet.nd rfl (Or.inl rfl) (pe_op op_add pe_int (pe_cal D hr1 pass0 (pa_cons (pv 0) (pa_cons (pe_ix ix_list (pe_lst (pa_cons pe_int (pa_cons pe_int (pa_cons pe_int pa_nil)))) (pv 1) (fun _ _ => rfl)) pa_nil)))))
      (pss_cons (ps_set (i := 3) scNet.nd rfl (Or.inl rfl) (pe_cal D hr1 pass0 (pa_cons (pv 0) (pa_cons (pe_ix ix_list (pe_lst (pa_cons pe_int (pa_cons pe_int (pa_cons pe_int pa_nil)))) (pv 1) (fun _ _ => rfl)) pa_nil))))
      (pss_cons (ps_if (pt_cmpR op_eq (pv 1) pe_int (nomark _)) (pss_one (ps_set (i := 4) scNet.nd rfl (Or.inr rfl) (pe_cal TR hr pass0 (pa_cons (pv 0) (pa_cons (pv 2) pa_nil)))))
        (pss_cons (ps_set (i := 5) scNet.nd rfl (Or.inr rfl) (pe_cal SM hr2 pass0 (pa_cons (pv 0) (pa_cons (pv 2) (pa_cons (pv 2) pa_nil)))))
        (pss_one (ps_set (i := 4) scNet.nd rfl (Or.inr rfl) ?c1))))
      (pss_cons (ps_for PassesOwn.never rfl (pi_range1 rfl B.range (pa_cons (pv 3) pa_nil)) (pg_name (i := 6) scNet.nd rfl (Or.inl rfl))
        (pss_one (ps_set (i := 4) scNet.nd rfl (Or.inr rfl) (pe_cal RD hr pass0 (pa_cons (pv 0) (pa_cons (pv 2) (pa_cons (pv 4) pa_nil)))))))
      (pss_one (ps_ret (pe_tup (pa_cons (pv 2) (pa_cons ?c2 pa_nil))))))))), ?_⟩
    case c1 =>
      refine' pe_comp (g := gName 0) (te := tTup (tCons (tOp (rIxL K) (tVar 1) (tOp (rI0 fun i j => .int (i - j)) (tVar 0) (tC (.int 1)))) (tCons (tOp (rIxL K) (tVar 1) (tVar 0)) tNil))) (NB := ["_law_k", "_law_order"]) (src := [none, some 5]) (blk_of (by kernel_rfl)) rfl (pi_range1 rfl B.range (pa_cons (pv 2) pa_nil)) ?g ?t ?e
      case g => exact fun cl C s₃ H₃ fp => pg_name (i := 0) nbNa rfl (Or.inl rfl) (Or.inr rfl)
      case t => exact fun cl C s₃ H₃ fp => pts_nil
      case e => exact fun cl C s₃ H₃ fp => pe_tup (pa_cons (pe_ix ix_list (pv 1) (pe_op op_sub (pv 0) pe_int) (fun _ _ => rfl)) (pa_cons (pe_ix ix_list (pv 1) (pv 0) (fun _ _ => rfl)) pa_nil))
    case c2 =>
      refine' pe_comp (g := gName 0) (te := tOp (rIxL K) (tVar 1) (tVar 0)) (NB := ["_law_k", "_law_ties"]) (src := [none, some 4]) (blk_of (by kernel_rfl)) rfl (pi_list (pe_cal SM hr2 pass0 (pa_cons (pv 0) (pa_cons (pe_callB call_len_seq (by rfl) B.len PySem.boot_len (pa_cons (pv 4) pa_nil)) (pa_cons (pe_callB call_len_seq (by rfl) B.len PySem.boot_len (pa_cons (pv 4) pa_nil)) pa_nil))))) ?g ?t ?e
      case g => exact fun cl C s₃ H₃ fp => pg_name (i := 0) nbNb rfl (Or.inl rfl) (Or.inr rfl)
      case t => exact fun cl C s₃ H₃ fp => pts_nil
      case e => exact fun cl C s₃ H₃ fp => pe_ix ix_list (pv 1) (pv 0) (fun _ _ => rfl)
    refine ⟨_, rfl, p, 3, rfl, by decide, by decide, hp, fun way H1 hw s1 hp1 => ?_⟩
    refine ⟨_, rfl, by show 3 ≤ sizeLine; decide, fun l1 hl1 => ⟨_, rfl, l1, [.int 31, .int 7, .int 31], _, .int (([31, 7, 31].getD way 0 : Nat) : Int), rfl, rfl, SqL.of upd_same, ?_, p, [31, 7, 31].getD way 0, rfl, ?_, ?_, hp1.same (same_new hl1), fun m H2 hm s2 hp2 => ?_⟩⟩
    · have : way = 0 ∨ way = 1 ∨ way = 2 := by omega
      rcases this with rfl | rfl | rfl <;> rfl
    · have : way = 0 ∨ way = 1 ∨ way = 2 := by omega
      rcases this with rfl | rfl | rfl <;> decide
    · have : way = 0 ∨ way = 1 ∨ way = 2 := by omega
      rcases this with rfl | rfl | rfl <;> decide
    have hm31 : m < 31 := by
      have : way = 0 ∨ way = 1 ∨ way = 2 := by omega
      rcases this with rfl | rfl | rfl <;> simp at hm <;> omega
    have s02 : SameE p H H2 := s1.trans ((SameE.of (same_new hl1)).trans s2)
    refine ⟨_, _, rfl, rfl, ?_⟩
    change gName 2 (V.int ((2 : Int) + (m : Int))) _ _ _
    rw [show (2 : Int) + (m : Int) = ((2 + m : Nat) : Int) by omega]
    generalize hn : 2 + m = n
    have n1 : 2 ≤ n := by omega
    have n2 : n ≤ 32 := by omega
    refine ⟨_, rfl, by show 3 ≤ sizeLine; decide, fun l2 hl2 => ⟨_, rfl, l2, [.int 9, .int 25, .int 9], _, .int (([9, 25, 9].getD way 0 : Nat) : Int), rfl, rfl, SqL.of upd_same, ?_, p, [9, 25, 9].getD way 0, rfl, ?_, ?_, hp2.same (same_new hl2), fun rs H3 hrs s3 hp3 => ?_⟩⟩
    · have : way = 0 ∨ way = 1 ∨ way = 2 := by omega
      rcases this with rfl | rfl | rfl <;> rfl
    · have : way = 0 ∨ way = 1 ∨ way = 2 := by omega
      rcases this with rfl | rfl | rfl <;> decide
    · have : way = 0 ∨ way = 1 ∨ way = 2 := by omega
      rcases this with rfl | rfl | rfl <;> decide
    have hrs' : rs < 1000 := by
      have : way = 0 ∨ way = 1 ∨ way = 2 := by omega
      rcases this with rfl | rfl | rfl <;> simp at hrs <;> omega
    have s03 : SameE p H H3 := s02.trans ((SameE.of (same_new hl2)).trans s3)
    refine gname_k ?_
    dsimp only
    refine seq_k (fun σ Hc => ∃ (L : Addr) (zs : Zs), (∃ o, σ = [some (.ref p), some (.int (way : Int)), some (.int (n : Int)), some (.int (rs : Int)), some (.ref L), o, none]) ∧ SameE p H Hc ∧ PotAt Hc p ∧ Tl p Hc L n zs) ?_ ?_
    · rintro σ Hc ⟨L, zs, ⟨o, rfl⟩, sc, hpc, tl⟩
      refine ⟨_, rfl, rs, rfl, by omega, by omega, for_range (lo := 0) (n := rs) (fun i σ Hc => ∃ (L : Addr) (zs : Zs), (∃ k, σ = [some (.ref p), some (.int (way : Int)), some (.int (n : Int)), some (.int (rs : Int)), some (.ref L), o, k]) ∧ SameE p H Hc ∧ PotAt Hc p ∧ Tl p Hc L n zs) ⟨L, zs, ⟨_, rfl⟩, sc, hpc, tl⟩ ?_ ?_⟩
      · rintro i σ Hc hi ⟨L, zs, ⟨k, rfl⟩, sc, hpc, tl⟩
        exact ⟨_, rfl, _, rfl, _, rfl, p, n, L, zs, rfl, hpc, tl, fun r zs' H' se hp' tl' => ⟨r, zs', ⟨_, rfl⟩, sc.trans se, hp', tl'⟩⟩
      · rintro σ Hc ⟨L, zs, ⟨k, rfl⟩, sc, hpc, tl⟩
        have hlen : zs.length ≤ 256 := by have := tl.t.fine.len; rw [zp_len] at this; exact this
        refine ⟨_, rfl, _, rfl, _, rfl, L, _, rfl, .inl (SqL.of tl.t.at_), _, rfl, L, _, rfl, .inl (SqL.of tl.t.at_), p, zs.length, zs.length, by rw [zr_len]; rfl, Nat.le_refl _, by omega, hpc, fun X xs H4 s4 hp4 hX4 hX so lx => ?_⟩
        have tl4 := tl.sameE s4 hpc
        refine ⟨X, rfl, ⟨_, SqL.of hX⟩, fun D1 hD1 => ?_⟩
        have pm := so.all lx
        refine comp_list (xs := NV xs) (fun i ys σ H5 => (∃ a, σ = [a, some (.ref L)]) ∧ Same H4 H5 ∧ H5 D1 = some (.lst ys) ∧ ys = zr ((xs.take i).map fun k => zs.getD k (0, (0, 0)))) ⟨⟨_, rfl⟩, same_new hD1, upd_same, rfl⟩ (fun i ys σ H5 _ z => SqL.of (z.2.1 _ _ hX)) ?_ ?_
        · rintro i x ys σ H5 Kt Kf hx ⟨⟨a, rfl⟩, sm5, hD5, rfl⟩ kt kf
          obtain ⟨v, hv, rfl⟩ := nv_at hx
          have hvl : v < zs.length := so.lt v (List.mem_of_getElem? hv)
          have hi : i < xs.length := (List.getElem?_eq_some_iff.mp hv).1
          have tk : xs.take (i + 1) = xs.take i ++ [v] := by rw [List.take_add_one, hv]; rfl
          have gz : (zr zs)[v]? = some (.ref (zs.getD v (0, (0, 0))).1) := by
            unfold zr
            rw [List.getElem?_map, List.getElem?_eq_getElem hvl, List.getD_eq_getElem?_getD, List.getElem?_eq_getElem hvl]; rfl
          refine ⟨_, rfl, _, rfl, L, _, _, _, rfl, rfl, SqL.of (sm5 _ _ tl4.t.at_), atI_nat gz, kt _ _ _ hD5 ?_ ⟨⟨_, rfl⟩, same_put sm5 hD1, upd_same, ?_⟩⟩
          · rw [zr_len, List.length_map, List.length_take]
            exact Nat.lt_of_lt_of_le (show _ < 300 by omega) (by decide)
          · rw [tk, List.map_append, zr_append]; rfl
        · rintro ys σ H5 ⟨_, sm5, hD5, rfl⟩
          rw [nv_len, List.take_length] at hD5
          refine ⟨by show 2 ≤ sizeLine; decide, fun t ht => ?_⟩
          have s5 : Same H4 (upd H5 t (.tup [.int (n : Int), .ref D1])) := sm5.trans (same_new ht)
          have pp := pick_perm (zs := zs) pm
          have D1n : D1 ≠ p := hp4.ne hD1
          refine q t D1 n (xs.map fun k => zs.getD k (0, (0, 0))) _ ((sc.trans s4).trans (SameE.of s5)) (hp4.same s5) upd_same ⟨⟨tl.t.fine.perm (show (zp _).Perm (zp zs) from List.Perm.map _ pp), same_new ht _ _ hD5, fun z hz => s5 _ _ (tl4.t.po z (pp.mem_iff.mp hz))⟩, D1n⟩ ?_
          exact (sc.trans s4).free hp4.full hD1
    · intro N hN
      refine if_k (fun Hc => Hc = H3) (fun Hc => Hc = H3) ?_ ?_ ?_
      · rintro Hc rfl
        exact ⟨_, rfl, _, rfl, p, n, rfl, hp3, n1, n2, fun r zs H' se hp' tl => hN _ _ ⟨r, zs, ⟨_, rfl⟩, s03.trans se, hp', tl⟩⟩
      · rintro Hc rfl
        refine ⟨_, rfl, _, rfl, _, rfl, p, n, n, rfl, by omega, by omega, hp3, fun O os H4 s4 hp4 hO4 hO so lo => ?_⟩
        have pm := so.all lo
        refine ⟨_, rfl, n, rfl, by omega, by omega, fun M hM => ?_⟩
        refine comp_mkR (lo := 0) (n := n) (fun k => (ci (os.getD (pk os.length k) 0), ci (os.getD k 0))) (fun σ => ∃ a, σ = [a, some (.ref O)]) hM (by omega) ⟨_, rfl⟩ ?_ ?_
        · rintro i σ H5 R Kf hi ⟨a, rfl⟩ sm5 kk
          have hx5 := sm5 _ _ hO
          have hi' : i < os.length := by omega
          refine ⟨_, rfl, _, rfl, _, _, rfl, rfl, O, _, _, _, rfl, rfl, SqL.of hx5, by rw [Int.zero_add]; exact nv_prev hi', _, rfl, _, rfl, O, _, _, _, rfl, rfl, SqL.of hx5, by rw [Int.zero_add]; exact atI_nat (nv_get hi'), by show 2 ≤ sizeLine; decide, fun t ht => ?_⟩
          have := kk [some (.int (0 + (i : Int))), some (.ref O)] t ⟨_, rfl⟩ ht
          rw [getD_eq hi'] at this
          exact this
        · intro zs H5 sm5 hM5 po5 ez
          have ez' : zp zs = cyc os := by rw [ez]; unfold cyc; rw [lo]
          refine hN _ _ ⟨M, zs, ⟨_, rfl⟩, (s03.trans s4).trans (SameE.of sm5), hp4.same sm5, ⟨⟨by rw [ez']; exact ring_fine n1 n2 pm, hM5, po5⟩, hp4.ne hM⟩⟩
      · intro Y N' hY hN'
        refine ⟨_, rfl, rfl, _, rfl, ?_⟩
        refine ite2 (fun e => hY _ rfl) (fun e => hN' _ rfl)
theorem scLeads : FnScope ["_law_many", "_law_ties", "_law_found", "_law_house"] ["_law_many", "_law_ties"] (defScope sLeads) := ⟨rfl, rfl, rfl, by decide +kernel, rfl, by decide +kernel, by decide +kernel⟩
def spLeads : Sp := fun vs H Q _ => ∃ (n : Nat) (l : Addr) (zs : Zs), vs = [.int n, .ref l] ∧ TiesAt H l n zs ∧ ∀ (r : Addr) (H' : Hp), Same H H' → H r = none → OutsAt H' r n (zp zs) → Q (.ref r) H'
theorem ok_leads {f : Addr} {fd : FuncData} (F : Fun K "_law_leads" "_law_leads" sLeads f fd) (B : Bl mg) : FnOk P w K mg base CX0 1 f fd ["_law_many", "_law_ties"] spLeads := by
  refine F.ok scLeads (fun vs H Q E h => ?_) (fun cdv A outer s H vs Q E hr h => ?_)
  · obtain ⟨n, l, zs, rfl, _⟩ := h
    rfl
  · obtain ⟨n, l, zs, rfl, TT, q⟩ := h
    have hu : (A.deeper (PyProof.Rows.envOfC "_law_leads" (defScope sLeads) s.heap.objs.size f cdv)).units + 2 < cLine := by have := hr.un; omega
    refine' ⟨_, pss_cons (ps_set (i := 2) scLeads.nd rfl (Or.inl rfl) (pe_lst pa_nil))
      (pss_cons (ps_for PassesOwn.never rfl (pi_range1 rfl B.range (pa_cons (pv 0) pa_nil)) (pg_name (i := 3) scLeads.nd rfl (Or.inr rfl))
        (pss_one (ps_expr (pe_bm PySem.F.plainAttrs_list PySem.F.slot_list_append PySem.F.type_list_append mt_append (pv 2) (pa_cons ?c pa_nil)))))
      (pss_one (ps_ret (pv 2)))), ?_⟩
    case c =>
      refine' pe_comp (g := gName 0) (tt := tTest (tOp (rInP K false) (tTup (tCons (tVar 1) (tCons (tOp (rI (fun _ j => 0 < j) fun i j => .int (i % j)) (tOp (rI0 fun i j => .int (i + j)) (tVar 1) (tVar 0)) (tVar 2)) tNil))) (tVar 3))) (te := tOp (rI (fun _ j => 0 < j) fun i j => .int (i % j)) (tOp (rI0 fun i j => .int (i + j)) (tVar 1) (tVar 0)) (tVar 2)) (NB := ["_law_step", "_law_house", "_law_many", "_law_ties"]) (src := [none, some 3, some 0, some 1]) (blk_of (by kernel_rfl)) rfl (pi_range1 rfl B.range (pa_cons (pv 0) pa_nil)) ?g ?t ?e
      case g => exact fun cl C s₃ H₃ fp => pg_name (i := 0) nbLa rfl (Or.inl rfl) (Or.inr rfl)
      case t => exact fun cl C s₃ H₃ fp => pts_one (pt_cmpR (op_inP hu) (pe_tup (pa_cons (pv 1) (pa_cons (pe_op op_mod (pe_op op_add (pv 1) (pv 0)) (pv 2)) pa_nil))) (pv 3) rfl)
      case e => exact fun cl C s₃ H₃ fp => pe_op op_mod (pe_op op_add (pv 1) (pv 0)) (pv 2)
    obtain ⟨fi, hl, po⟩ := id TT
    have n1 := fi.n1
    have n2 := fi.n2
    refine ⟨by show 0 ≤ sizeLine; decide, fun R hR => ?_⟩
    refine ⟨_, rfl, n, rfl, by omega, by omega, for_range (lo := 0) (n := n) (fun i σ Hc => (∃ k, σ = [some (.int n), some (.ref l), some (.ref R), k]) ∧ Same H Hc ∧ ∃ bs : List Addr, Hc R = some (.lst (bs.map V.ref)) ∧ (∀ b ∈ bs, b ≠ R) ∧ Holds Hc bs i (fun h => .lst (NV (outN n (zp zs) h)))) ⟨⟨_, rfl⟩, same_new hR, [], upd_same, (fun _ h => nomatch h), Holds.nil⟩ ?_ ?_⟩
    · rintro i σ Hc hi ⟨⟨k, rfl⟩, sc, bs, hRc, hbR, hb⟩
      have hlc := sc _ _ hl
      have poc : PO Hc zs := po.same sc
      refine ⟨_, rfl, .inl ⟨rfl, _, SqL.of hRc⟩, _, rfl, n, rfl, by omega, by omega, fun D1 hD1 => ?_⟩
      refine comp_range (n := n) (lo := 0) (fun j ys σ H5 => (∃ a, σ = [a, some (.int (0 + (i : Int))), some (.int (n : Int)), some (.ref l)]) ∧ Same Hc H5 ∧ H5 D1 = some (.lst ys) ∧ ys = NV (((List.range j).map fun s => (i + s) % n).filter fun o => decide (T (zp zs) i o))) ⟨⟨_, rfl⟩, same_new hD1, upd_same, rfl⟩ ?_ ?_
      · rintro j ys σ H5 Kt Kf hj ⟨⟨a, rfl⟩, sm5, hD5, rfl⟩ kt kf
        have ev : ((0 : Int) + (i : Int) + (0 + (j : Int))) % (n : Int) = (((i + j) % n : Nat) : Int) := by
          rw [Int.zero_add, Int.zero_add, ← Int.natCast_add, ← Int.natCast_emod]
        have rs : (List.range (j + 1)).map (fun s => (i + s) % n) = (List.range j).map (fun s => (i + s) % n) ++ [(i + j) % n] := by rw [List.range_succ, List.map_append]; rfl
        refine ⟨_, rfl, _, rfl, _, rfl, _, _, rfl, rfl, _, rfl, _, _, rfl, rfl, (by show (0 : Int) < (n : Int); omega), by show 2 ≤ sizeLine; decide, fun t ht => ?_⟩
        have e0 : (0 : Int) + (i : Int) = (i : Int) := Int.zero_add _
        have hts : (upd H5 t (.tup [.int (0 + (i : Int)), .int (((0 : Int) + (i : Int) + (0 + (j : Int))) % (n : Int))])) t = some (prT (ci i, ci ((i + j) % n))) := by
          rw [upd_same, ev, e0]
        have sT : Same H5 (upd H5 t (.tup [.int (0 + (i : Int)), .int (((0 : Int) + (i : Int) + (0 + (j : Int))) % (n : Int))])) := same_new ht
        refine ⟨_, rfl, inP_of hts (sT _ _ (sm5 _ _ hlc)) ((poc.same sm5).same sT) ⟨_, rfl, ?_⟩⟩
        rw [if_neg Bool.false_ne_true]
        refine ite2 (fun e => ?_) (fun e => ?_)
        · have e' : T (zp zs) i ((i + j) % n) := of_decide_eq_true e
          refine ⟨_, rfl, _, rfl, _, _, rfl, rfl, _, rfl, _, _, rfl, rfl, (by show (0 : Int) < (n : Int); omega), kt _ _ _ (sT _ _ hD5) ?_ ⟨⟨_, rfl⟩, same_put (sm5.trans sT) hD1, upd_same, ?_⟩⟩
          · rw [nv_len]
            exact Nat.lt_of_le_of_lt (List.length_filter_le _ _) (by rw [List.length_map, List.length_range]; exact Nat.lt_of_lt_of_le (show j < 33 by omega) (by decide))
          · show NV _ ++ [.int (((0 : Int) + (i : Int) + (0 + (j : Int))) % (n : Int))] = _
            rw [ev, nv_snoc, rs, List.filter_append]
            simp [List.filter_cons, e']
        · have e' : ¬ T (zp zs) i ((i + j) % n) := fun z => e (decide_eq_true z)
          refine kf _ _ ⟨⟨_, rfl⟩, sm5.trans sT, sT _ _ hD5, ?_⟩
          rw [rs, List.filter_append]
          simp [List.filter_cons, e']
      · rintro ys σ H5 ⟨_, sm5, hD5, rfl⟩
        have hD5' : H5 D1 = some (.lst (NV (outN n (zp zs) i))) := hD5
        have hR5 := sm5 _ _ hRc
        have nRD : D1 ≠ R := by rintro rfl; rw [hRc] at hD1; cases hD1
        have keepR : ∀ b o ys', H5 b = some o → b ≠ R → (upd H5 R ys') b = some o := fun b o ys' e h => by rw [upd_ne h]; exact e
        refine ⟨R, _, _, rfl, rfl, hR5, by rw [List.length_map, hb.1]; exact Nat.lt_of_lt_of_le (show i < 33 by omega) (by decide), ⟨⟨_, rfl⟩, same_put (sc.trans sm5) hR, bs ++ [D1], by rw [upd_same, List.map_append]; rfl, ?_, ?_⟩⟩
        · intro b hb'
          rcases List.mem_append.mp hb' with z | z
          · exact hbR b z
          · rw [List.mem_singleton.mp z]; exact nRD
        · refine Holds.snoc (hb.mono fun j hj e => keepR _ _ _ (sm5 _ _ e) (hbR _ ?_)) (keepR _ _ _ hD5' nRD)
          rw [List.getD_eq_getElem?_getD, List.getElem?_eq_getElem (by rw [hb.1]; exact hj)]; exact List.getElem_mem _
    · rintro σ Hc ⟨⟨k, rfl⟩, sc, bs, hRc, _, hb⟩
      exact ⟨_, rfl, q R Hc sc hR ⟨bs, hRc, hb⟩⟩
end
end K12
namespace K12
open PySem L2 NetM
abbrev sFars : Stmt := top 40
theorem nbFa : (["_law_other", "_law_far", "_law_further"] : List Str).Nodup := by decide +kernel
theorem nbFb : (["_law_other", "_law_far"] : List Str).Nodup := by decide +kernel
theorem nv_in {x : Nat} : ∀ {xs : List Nat}, inV (.int (x : Int)) (NV xs) = decide (x ∈ xs)
  | [] => rfl
  | y :: ys => by
    have ih := nv_in (x := x) (xs := ys)
    unfold inV NV at *
    rw [List.map_cons, List.any_cons, ih]
    by_cases e : y = x
    · subst e; simp [eqV]
    · have e' : ¬ x = y := fun z => e z.symm
      have e2 : ¬ (y : Int) = (x : Int) := fun z => e (Int.ofNat.inj z)
      have e3 : ¬ (x : Int) = (y : Int) := fun z => e' (Int.ofNat.inj z)
      simp [eqV, e', e2, e3]
theorem nv_flat : ∀ {xs : List Nat}, (NV xs).all flatV = true
  | [] => rfl
  | y :: ys => by unfold NV; rw [List.map_cons, List.all_cons]; exact Bool.and_eq_true_iff.mpr ⟨rfl, nv_flat (xs := ys)⟩
noncomputable def dkv (ts : Ts) (s : Nat) (xs : List Nat) : List (Key × V) := xs.map fun (x : Nat) => (Sum.inl (x : Int), V.int ((far ts s x : Nat) : Int))
theorem dkv_len {ts : Ts} {s : Nat} {xs : List Nat} : (dkv ts s xs).length = xs.length := List.length_map _
theorem dkv_val {ts : Ts} {s x : Nat} : ∀ {xs : List Nat}, valV (dkv ts s xs) (Sum.inl (x : Int)) = if x ∈ xs then some (.int ((far ts s x : Nat) : Int)) else none
  | [] => rfl
  | y :: ys => by
    unfold dkv
    rw [List.map_cons]
    by_cases e : y = x
    · subst e
      rw [valV_pos rfl, if_pos List.mem_cons_self]
    · have e2 : ¬ ((Sum.inl (y : Int) : Key) = Sum.inl (x : Int)) := fun z => e (Int.ofNat.inj (Sum.inl.inj z))
      rw [valV_neg e2]
      have ih := dkv_val (ts := ts) (s := s) (x := x) (xs := ys)
      unfold dkv at ih
      rw [ih]
      by_cases h : x ∈ ys
      · rw [if_pos h, if_pos (List.mem_cons_of_mem _ h)]
      · rw [if_neg h, if_neg (fun z => (List.mem_cons.mp z).elim (fun q => e q.symm) h)]
theorem dkv_put {ts : Ts} {s x : Nat} {xs : List Nat} (h : x ∉ xs) : putK (dkv ts s xs) (Sum.inl (x : Int)) (.int ((far ts s x : Nat) : Int)) = dkv ts s (xs ++ [x]) := by
  rw [putK_new _ (by rw [dkv_val, if_neg h])]
  unfold dkv
  rw [List.map_append]; rfl
def muF (n : Nat) (D : Addr) (σ : St) (H : Hp) : Nat := 2 * (n - (match H D with | some (.dK kvs) => kvs.length | _ => 0)) + (match σ[3]? with
  | some (some (V.ref l)) => (match H l with | some (.lst []) => 0 | _ => 1)
  | _ => 1)
theorem muF_of {n : Nat} {D l : Addr} {σ : St} {H : Hp} {kvs : List (Key × V)} {xs : List V} (h1 : H D = some (.dK kvs)) (h2 : σ[3]? = some (some (.ref l))) (h3 : H l = some (.lst xs)) : muF n D σ H = 2 * (n - kvs.length) + (if xs = [] then 0 else 1) := by
  unfold muF
  rw [h1, h2]
  dsimp only
  rw [h3]
  cases xs with
  | nil => rfl
  | cons x xs => simp
section
variable {P : Program} {w : World} {K : PySem.W.Frag} {mg : Str → Option Value} {base : Heap}
theorem scFars : FnScope ["_law_leads_here", "_law_house", "_law_far", "_law_layer", "_law_further", "_law_one", "_law_other"] ["_law_leads_here", "_law_house"] (defScope sFars) := ⟨rfl, rfl, rfl, by decide +kernel, rfl, by decide +kernel, by decide +kernel⟩
def spFars : Sp := fun vs H Q _ => ∃ (ol : Addr) (n s : Nat) (ts : Ts), vs = [.ref ol, .int s] ∧ Fine n ts ∧ s < n ∧ OutsAt H ol n ts ∧ ∀ (r : Addr) (H' : Hp), Same H H' → H r = none → H' r = some (.lst (NV ((List.range n).map (far ts s)))) → Q (.ref r) H'
theorem ok_fars {f : Addr} {fd : FuncData} (F : Fun K "_law_fars" "_law_fars" sFars f fd) (B : Bl mg) : FnOk P w K mg base CX0 1 f fd ["_law_leads_here", "_law_house"] spFars := by
  refine F.ok scFars (fun vs H Q E h => ?_) (fun cdv A outer s H vs Q E hr h => ?_)
  · obtain ⟨ol, n, st, ts, rfl, _⟩ := h
    rfl
  · obtain ⟨ol, n, st, ts, rfl, fi, hs, O, k⟩ := h
    have n1 := fi.n1
    have n2 := fi.n2
    have hu : (A.deeper (PyProof.Rows.envOfC "_law_fars" (defScope sFars) s.heap.objs.size f cdv)).units + 2 < cLine := by have := hr.un; omega
    have hu1 : (A.deeper (PyProof.Rows.envOfC "_law_fars" (defScope sFars) s.heap.objs.size f cdv)).units + 1 < cLine := by omega
    refine' ⟨_, pss_cons (ps_set (i := 2) scFars.nd rfl (Or.inr rfl) (pe_disp (pps_cons (pv 1) pe_int pps_nil) rfl rfl (by simp) (by decide)))
      (pss_cons (ps_set (i := 3) scFars.nd rfl (Or.inl rfl) (pe_lst (pa_cons (pv 1) pa_nil)))
      (pss_cons (ps_while PassesOwn.never (pt_cmpR (op_neL (e := eqV) hu) (pv 3) (pe_lst pa_nil) (nomark _))
        (pss_cons (ps_set (i := 4) scFars.nd rfl (Or.inr rfl) (pe_lst pa_nil))
        (pss_cons (ps_for PassesOwn.never rfl (pi_list (pv 3)) (pg_name (i := 5) scFars.nd rfl (Or.inl rfl))
          (pss_one (ps_expr (pe_bm PySem.F.plainAttrs_list PySem.F.slot_list_extend PySem.F.type_list_extend mt_extend (pv 4) (pa_cons ?c1 pa_nil)))))
        (pss_cons (ps_for PassesOwn.never rfl (pi_list (pv 4)) (pg_name (i := 6) scFars.nd rfl (Or.inl rfl))
          (pss_one (ps_dput hu1 (pv 2) (pv 6) (pe_op op_add (pe_dget hu1 (pv 2) (pe_ix ix_list (pv 3) pe_int (fun _ _ => rfl)) (fun _ _ => rfl)) pe_int) rfl)))
        (pss_one (ps_set (i := 3) scFars.nd rfl (Or.inl rfl) (pv 4)))))))
      (pss_one (ps_ret ?c2)))), ?_⟩
    case c1 =>
      refine' pe_comp (g := gName 0) (tt := tAnd (tB (tDNotIn (tVar 0) (tVar 1))) (tTest (tOp (rIn K true) (tVar 0) (tVar 2)))) (te := tVar 0) (NB := ["_law_other", "_law_far", "_law_further"]) (src := [none, some 2, some 4]) (blk_of (by kernel_rfl)) rfl (pi_list (pe_ix ix_list (pv 0) (pv 5) (fun _ _ => rfl))) ?g ?t ?e
      case g => exact fun cl C s₃ H₃ fp => pg_name (i := 0) nbFa rfl (Or.inl rfl) (Or.inr rfl)
      case t => exact fun cl C s₃ H₃ fp => pts_one (PW.pt (pw_and (pt_cmp (pc_dnotin hu1 (pv 0) (pv 1))) (pw_and1 (pt_cmpR op_notIn_seq (pv 0) (pv 2) rfl))))
      case e => exact fun cl C s₃ H₃ fp => pv 0
    case c2 =>
      refine' pe_comp (g := gName 0) (te := tDGet (tVar 1) (tVar 0)) (NB := ["_law_other", "_law_far"]) (src := [none, some 2]) (blk_of (by kernel_rfl)) rfl (pi_range1 rfl B.range (pa_cons (pe_callB call_len_seq (by rfl) B.len PySem.boot_len (pa_cons (pv 0) pa_nil)) pa_nil)) ?g ?t ?e
      case g => exact fun cl C s₃ H₃ fp => pg_name (i := 0) nbFb rfl (Or.inl rfl) (Or.inr rfl)
      case t => exact fun cl C s₃ H₃ fp => pts_nil
      case e => exact fun cl C s₃ H₃ fp => pe_dget hu1 (pv 1) (pv 0) (fun _ _ => rfl)
    obtain ⟨bs, hol, hbl, hbs⟩ := id O
    refine fun D hD => ⟨_, rfl, upd_same, [(Sum.inl (st : Int), .int 0)], rfl, by show 1 ≤ 15; decide, ?_⟩
    rw [upd_upd]
    have e0 : mergeK [] [(Sum.inl (st : Int), V.int 0)] = dkv ts st [st] := by
      unfold dkv
      rw [List.map_cons, far_self]; rfl
    rw [e0]
    have smD : Same H (upd H D (.dK (dkv ts st [st]))) := same_new hD
    refine ⟨_, rfl, by show 1 ≤ sizeLine; decide, fun L0 hL0 => ?_⟩
    have nDL0 : D ≠ L0 := ne_of_none (H := upd H D (.dK (dkv ts st [st]))) upd_same hL0
    refine while_by (fun σ Hc => ∃ (d : Nat) (xs ls : List Nat) (L : Addr), Lay n ts st d xs ls ∧ (∃ a b c, σ = [some (.ref ol), some (.int st), some (.ref D), some (.ref L), a, b, c]) ∧ Same H Hc ∧ H L = none ∧ L ≠ D ∧ Hc D = some (.dK (dkv ts st xs)) ∧ Hc L = some (.lst (NV ls))) (muF n D)
      ⟨0, [st], [st], L0, Lay.start fi hs, ⟨none, none, none, rfl⟩, smD.trans (same_new hL0), smD.free hL0, nDL0.symm, by rw [upd_ne nDL0, upd_same], upd_same⟩ ?_ ?_
    · rintro σ Hc ⟨d, xs, ls, L, Ly, ⟨a, b, c, rfl⟩, sc, hLH, nLD, hDc, hLc⟩
      refine ⟨_, rfl, by show 0 ≤ sizeLine; decide, fun E1 hE1 => ?_⟩
      have sE := same_new (o := .lst []) hE1
      refine ⟨L, E1, _, [], rfl, rfl, SqL.of (sE _ _ hLc), SqL.of upd_same, fun i h1 h2 => absurd h2 (by simp), _, rfl, ?_⟩
      rw [if_pos rfl, allEq_nil]
      have sc1 : Same H (upd Hc E1 (.lst [])) := sc.trans sE
      have hD1 := sE _ _ hDc
      have hL1 := sE _ _ hLc
      have mu0 : muF n D [some (.ref ol), some (.int st), some (.ref D), some (.ref L), a, b, c] Hc = 2 * (n - (dkv ts st xs).length) + (if NV ls = [] then 0 else 1) := muF_of hDc rfl hLc
      generalize upd Hc E1 (.lst []) = H1 at *
      by_cases hls : NV ls = []
      · rw [decide_eq_true hls]
        refine iteF ?_
        have hls' : ls = [] := List.map_eq_nil_iff.mp hls
        subst hls'
        refine ⟨_, rfl, ol, _, rfl, .inl (SqL.of (sc1 _ _ hol)), n, by rw [List.length_map, hbl], by omega, by omega, fun R hR => ?_⟩
        refine comp_range (n := n) (lo := 0) (fun i ys σ H2 => (∃ a, σ = [a, some (.ref D)]) ∧ Same H1 H2 ∧ H2 R = some (.lst ys) ∧ ys = NV ((List.range i).map (far ts st))) ⟨⟨_, rfl⟩, same_new hR, upd_same, rfl⟩ ?_ ?_
        · rintro i ys σ H2 Kt Kf hi ⟨⟨a', rfl⟩, sm2, hR2, rfl⟩ kt kf
          refine ⟨_, rfl, _, rfl, D, .int ((far ts st i : Nat) : Int), rfl, ?_, kt _ _ _ hR2 ?_ ⟨⟨_, rfl⟩, same_put sm2 hR, upd_same, ?_⟩⟩
          · have := DGet.k (k := Sum.inl (i : Int)) (sm2 _ _ hD1)
            rw [dkv_val, if_pos (Ly.done fi hs hi)] at this
            rw [Int.zero_add]
            exact this
          · rw [nv_len, List.length_map, List.length_range]; exact Nat.lt_of_lt_of_le (show i < 33 by omega) (by decide)
          · rw [nv_snoc, List.range_succ, List.map_append]; rfl
        · rintro ys σ H2 ⟨_, sm2, hR2, rfl⟩
          exact k R H2 (sc1.trans sm2) (sc1.free hR) hR2
      · rw [decide_eq_false hls]
        refine iteT ?_
        have hls0 : 0 < ls.length := by
          cases ls with
          | nil => exact absurd rfl hls
          | cons y ys => simp
        refine ⟨by show 0 ≤ sizeLine; decide, fun Fu hFu => ?_⟩
        have nDF : D ≠ Fu := ne_of_none hD1 hFu
        have nLF : L ≠ Fu := ne_of_none hL1 hFu
        have hFH : H Fu = none := sc1.free hFu
        have hlslen : ls.length ≤ n := nodup_lt_len Ly.ndl fun x hx => ((Ly.ml x).mp hx).1
        have hxslen := Ly.len
        refine ⟨_, rfl, L, rfl, ⟨_, SqL.of (by rw [upd_ne nLF]; exact hL1)⟩, for_list (K := K) (xs := NV ls) (fun j σ H2 => ∃ fs : List Nat, Fur n ts xs ls j fs ∧ (∃ a b, σ = [some (.ref ol), some (.int st), some (.ref D), some (.ref L), some (.ref Fu), a, b]) ∧ Same H1 H2 ∧ H2 Fu = some (.lst (NV fs)))
          ⟨[], Fur.start, ⟨_, _, rfl⟩, same_new hFu, upd_same⟩ (fun j σ H2 _ ⟨_, _, _, sm2, _⟩ => SqL.of (sm2 _ _ hL1)) ?_ ?_⟩
        · rintro j x σ H2 hx ⟨fs, Fr, ⟨a', b', rfl⟩, sm2, hF2⟩
          obtain ⟨u, hu', rfl⟩ := nv_at hx
          have hun : u < n := ((Ly.ml u).mp (List.mem_of_getElem? hu')).1
          have hb1 : (bs.map V.ref)[u]? = some (.ref (bs.getD u 0)) := by
            rw [List.getElem?_map, List.getD_eq_getElem?_getD, List.getElem?_eq_getElem (by rw [hbl]; exact hun)]; rfl
          have hb2 := sm2 _ _ (sc1 _ _ (hbs _ hun))
          refine ⟨_, rfl, .inl ⟨rfl, _, SqL.of hF2⟩, _, rfl, _, rfl, ol, _, _, _, rfl, rfl, SqL.of (sm2 _ _ (sc1 _ _ hol)), atI_nat hb1, _, rfl, ⟨_, SqL.of hb2⟩, fun D1 hD1' => ?_⟩
          have hol' : (outN n ts u).length ≤ 32 := Nat.le_trans (Nat.le_trans (List.length_filter_le _ _) (by simp)) n2
          refine comp_fn (fun o => !decide (o ∈ xs) && !decide (o ∈ fs)) (fun σ => ∃ a, σ = [a, some (.ref D), some (.ref Fu)]) hb2 hD1' (by omega) ⟨_, rfl⟩ ?_ ?_
          · rintro v σ H3 Kt Kf hv ⟨a'', rfl⟩ sm3 kt kf
            have hg := DGet.k (k := Sum.inl (v : Int)) (sm3 _ _ (sm2 _ _ hD1))
            refine ⟨_, rfl, _, rfl, D, _, rfl, hg, _, rfl, ?_⟩
            rw [dkv_val]
            by_cases h1 : v ∈ xs
            · rw [if_pos h1]
              exact iteF (kf _ _ ⟨_, rfl⟩ (Same.refl _) (by simp [h1]))
            · rw [if_neg h1]
              refine iteT ?_
              refine ⟨_, rfl, _, rfl, Fu, _, rfl, .inl (SqL.of (sm3 _ _ hF2)), rfl, nv_flat, _, rfl, ?_⟩
              rw [if_pos rfl, nv_in]
              by_cases h2 : v ∈ fs
              · rw [decide_eq_true h2]
                exact iteF (kf _ _ ⟨_, rfl⟩ (Same.refl _) (by simp [h2]))
              · rw [decide_eq_false h2]
                exact iteT ⟨_, rfl, kt _ _ ⟨_, rfl⟩ (Same.refl _) (by simp [h1, h2])⟩
          · intro H3 sm3 hD3
            have hF3 := sm3 _ _ hF2
            have Fr' := Fr.step fi hu' hun
            have hfl : (fs ++ (outN n ts u).filter fun o => !decide (o ∈ xs) && !decide (o ∈ fs)).length ≤ n := nodup_lt_len Fr'.nd fun x hx => let ⟨u', hu'', t⟩ := Fr'.from_ x hx; (fi.tlt t).2.1
            rw [List.length_append] at hfl
            refine ⟨Fu, D1, _, _, rfl, rfl, hF3, hD3, ?_, _, Fr', ⟨_, _, rfl⟩, same_put (sm2.trans sm3) hFu, ?_⟩
            · rw [nv_len, nv_len]
              exact Nat.le_trans hfl (Nat.le_trans n2 (by decide))
            · rw [upd_same]; unfold NV; rw [List.map_append]
        · rintro σ H2 ⟨fs, Fr, ⟨a', b', rfl⟩, sm2, hF2⟩
          rw [nv_len] at Fr
          have Ly' := Ly.next fi hs Fr
          have hlen' := Ly'.len
          rw [List.length_append] at hlen'
          have hl0 : (NV ls)[0]? = some (.int ((ls[0] : Nat) : Int)) := nv_get hls0
          have hd0 : far ts st ls[0] = d := ((Ly.ml ls[0]).mp (List.getElem_mem hls0)).2
          have hx0 : ls[0] ∈ xs := (Ly.mx ls[0]).mpr ⟨((Ly.ml ls[0]).mp (List.getElem_mem hls0)).1, by omega⟩
          generalize ls[0]'hls0 = v0 at hl0 hd0 hx0
          refine ⟨_, rfl, Fu, rfl, ⟨_, SqL.of hF2⟩, for_list (K := K) (xs := NV fs) (fun j σ H3 => (∃ a b, σ = [some (.ref ol), some (.int st), some (.ref D), some (.ref L), some (.ref Fu), a, b]) ∧ SameE D H1 H3 ∧ H3 Fu = some (.lst (NV fs)) ∧ H3 D = some (.dK (dkv ts st (xs ++ fs.take j))))
            ⟨⟨_, _, rfl⟩, SameE.of sm2, hF2, by rw [List.take_zero, List.append_nil]; exact sm2 _ _ hD1⟩ (fun j σ H3 _ z => SqL.of z.2.2.1) ?_ ?_⟩
          · rintro j x σ H3 hx ⟨⟨a'', b'', rfl⟩, sm3, hF3, hD3⟩
            obtain ⟨v, hv, rfl⟩ := nv_at hx
            have hj : j < fs.length := (List.getElem?_eq_some_iff.mp hv).1
            have tk : fs.take (j + 1) = fs.take j ++ [v] := by rw [List.take_add_one, hv]; rfl
            have hvf : v ∈ fs := List.mem_of_getElem? hv
            have hvd : far ts st v = d + 1 := ((Ly'.ml v).mp hvf).2
            have hvn : v ∉ xs ++ fs.take j := by
              intro z
              rcases List.mem_append.mp z with z | z
              · exact Fr.nx v hvf z
              · have nd1 : (fs.take j ++ [v]).Nodup := by rw [← tk]; exact Fr.nd.sublist (List.take_sublist _ _)
                exact (List.nodup_append.mp nd1).2.2 v z v (by simp) rfl
            have hg := DGet.k (k := Sum.inl (v0 : Int)) hD3
            rw [dkv_val, if_pos (List.mem_append_left _ hx0), hd0] at hg
            refine ⟨_, rfl, _, rfl, L, _, _, _, rfl, rfl, SqL.of (sm3 _ _ hL1 nLD), atI_nat hl0, D, _, rfl, hg, _, _, rfl, rfl, _, rfl, _, rfl, D, _, rfl, DPut.k (k := Sum.inl (v : Int)) hD3 ?_, ⟨_, _, rfl⟩, sm3.trans SameE.upd, ?_, ?_⟩
            · rw [dkv_len, List.length_append, List.length_take]
              exact Nat.lt_of_lt_of_le (show _ < 100 by omega) (by decide)
            · rw [upd_ne nDF.symm]; exact hF3
            · rw [upd_same, tk, ← List.append_assoc, ← dkv_put hvn, hvd]
              rfl
          · rintro σ H3 ⟨⟨a'', b'', rfl⟩, sm3, hF3, hD3⟩
            rw [nv_len, List.take_length] at hD3
            have sH : Same H H3 := fun b o e => sm3 _ _ (sc1 _ _ e) (by rintro rfl; rw [hD] at e; cases e)
            refine ⟨_, rfl, ⟨⟨d + 1, xs ++ fs, fs, Fu, Ly', ⟨_, _, _, rfl⟩, sH, hFH, nDF.symm, hD3, hF3⟩, ?_⟩⟩
            rw [mu0, muF_of hD3 rfl hF3, dkv_len, dkv_len, List.length_append, if_neg hls]
            by_cases hf : NV fs = []
            · have : fs = [] := List.map_eq_nil_iff.mp hf
              subst this
              simp
            · have : 0 < fs.length := by
                cases fs with
                | nil => exact absurd rfl hf
                | cons y ys => simp
              rw [if_neg hf]
              omega
    · rintro σ Hc Q1 Q2 imp ⟨v, e1, z, h⟩
      refine ⟨v, e1, z, fun L' hL' => ?_⟩
      obtain ⟨p', q', xs', ys', a1, a2, a3, a4, a5, kk, ek, qq⟩ := h L' hL'
      exact ⟨p', q', xs', ys', a1, a2, a3, a4, a5, kk, ek, imp _ _ qq⟩
end
end K12
namespace K12
open PySem L2 NetM
abbrev sLWhole : Stmt := top 41
abbrev sRowIs : Stmt := top 42
abbrev sTells : Stmt := top 43
theorem nbOne : (["_law_one"] : List Str).Nodup := by decide +kernel
theorem nbHL : (["_law_house", "_law_leads_here"] : List Str).Nodup := by decide +kernel
theorem nbHN : (["_law_home", "_law_net_here", "_law_house"] : List Str).Nodup := by decide +kernel
theorem nbOF : (["_law_other", "_law_fars_here", "_law_home", "_law_house"] : List Str).Nodup := by decide +kernel
theorem nbLR : (["_law_row"] : List Str).Nodup := by decide +kernel
theorem allEq_self : ∀ {xs : List Nat}, allEq eqV (NV xs) (NV xs) = true
  | [] => rfl
  | x :: xs => by
    unfold NV
    rw [List.map_cons, allEq]
    have := allEq_self (xs := xs)
    unfold NV at this
    rw [this, Bool.and_true]
    show ((x : Int) == (x : Int)) = true
    simp
theorem nv_elEq {X : Cx} {H : Hp} {xs ys : List Nat} {i : Nat} : ElEq X H eqV ((NV xs).getD i .non) ((NV ys).getD i .non) := by
  have fl : ∀ (zs : List Nat), flatV ((NV zs).getD i .non) = true := fun zs => by
    rw [List.getD_eq_getElem?_getD]
    cases e : (NV zs)[i]? with
    | none => rfl
    | some v => obtain ⟨y, _, rfl⟩ := nv_at e; rfl
  exact elEq_flat (fl xs) (fl ys)
def Rows (H : Hp) (l : Addr) (n : Nat) (r : Nat → List Nat) : Prop := ∃ bs : List Addr, H l = some (.lst (bs.map V.ref)) ∧ Holds H bs n (fun h => .lst (NV (r h)))
theorem Rows.same {H H' : Hp} {l : Addr} {n : Nat} {r : Nat → List Nat} (x : Rows H l n r) (e : Same H H') : Rows H' l n r := let ⟨bs, a, b⟩ := x; ⟨bs, e _ _ a, b.mono fun _ _ z => e _ _ z⟩
theorem Rows.row {H : Hp} {l : Addr} {n : Nat} {r : Nat → List Nat} (R : Rows H l n r) {h : Nat} (hh : h < n) : ∃ (bs : List Addr) (b : Addr), H l = some (.lst (bs.map V.ref)) ∧ (bs.map V.ref)[h]? = some (V.ref b) ∧ H b = some (.lst (NV (r h))) := by
  obtain ⟨bs, a, c⟩ := R
  have hl : h < bs.length := by rw [c.1]; exact hh
  refine ⟨bs, bs[h], a, by rw [List.getElem?_map, List.getElem?_eq_getElem hl]; rfl, ?_⟩
  have := c.2 h hh
  rw [List.getD_eq_getElem?_getD, List.getElem?_eq_getElem hl] at this
  exact this
theorem nout (n : Int) (tl ol ds : Addr) : (flds n tl ol ds).lookup ("out" : Str) = none := flds_no n tl ol ds (by decide +kernel) (by decide +kernel) (by decide +kernel) (by decide +kernel)
theorem ngood (n : Int) (tl ol ds : Addr) : (flds n tl ol ds).lookup ("good" : Str) = none := flds_no n tl ol ds (by decide +kernel) (by decide +kernel) (by decide +kernel) (by decide +kernel)
theorem nspan (n : Int) (tl ol ds : Addr) : (flds n tl ol ds).lookup ("span" : Str) = none := flds_no n tl ol ds (by decide +kernel) (by decide +kernel) (by decide +kernel) (by decide +kernel)
theorem IsSpan.uniq {n : Nat} {ts : Ts} {M M' : Nat} (a : IsSpan n ts M) (b : IsSpan n ts M') : M = M' := by
  obtain ⟨⟨i, j, hi, hj, e⟩, h⟩ := a
  obtain ⟨⟨i', j', hi', hj', e'⟩, h'⟩ := b
  have := h i' j' hi' hj'
  have := h' i j hi hj
  omega
section
variable {P : Program} {w : World} {K : PySem.W.Frag} {mg : Str → Option Value} {base : Heap}
theorem scLWhole : FnScope ["_law_thing"] ["_law_thing"] (defScope sLWhole) := ⟨rfl, rfl, rfl, by decide +kernel, rfl, by decide +kernel, by decide +kernel⟩
theorem ok_lwhole {f : Addr} {fd : FuncData} (F : Fun K "_law_whole" "_law_whole" sLWhole f fd) (B : Bl mg) : FnOk P w K mg base CX0 1 f fd ["_law_thing"] (spWhole K) := by
  refine F.ok scLWhole (fun vs H Q E h => ?_) (fun cdv A outer s H vs Q E hr h => ?_)
  · obtain ⟨x, o, rfl, _⟩ := h
    rfl
  · obtain ⟨x, o, rfl, W, k⟩ := h
    refine ⟨_, pss_one (ps_ret (pe_and (pe_callB call_isi (by rfl) B.isi PyProof.Rows.boot_isinstance (pa_cons (pv 0) (pa_cons (pe_bltn (v := .ty "int") rfl B.int PyProof.Rows.boot_int rfl) pa_nil)))
      (pe_one (pe_not (pe_callB call_isi (by rfl) B.isi PyProof.Rows.boot_isinstance (pa_cons (pv 0) (pa_cons (pe_bltn (v := .ty "bool") rfl B.bool PyProof.Rows.boot_bool rfl) pa_nil))))))), ?_⟩
    cases W with
    | int i =>
      refine ⟨_, rfl, _, _, _, .type "int", true, rfl, ⟨rfl, kit_int_int⟩, .of (.int _), true, rfl, ?_⟩
      exact ⟨_, rfl, _, _, _, .type "int", false, rfl, ⟨rfl, kit_int_bool⟩, .of (.int _), false, rfl, k⟩
    | no h =>
      obtain ⟨t, ty, h | ⟨h1, h2⟩⟩ := h
      · exact ⟨_, rfl, _, _, _, t, false, rfl, ⟨rfl, h⟩, ty, false, rfl, k⟩
      · refine ⟨_, rfl, _, _, _, t, true, rfl, ⟨rfl, h1⟩, ty, true, rfl, ?_⟩
        exact ⟨_, rfl, _, _, _, t, true, rfl, ⟨rfl, h2⟩, ty, true, rfl, k⟩
theorem scRowIs : FnScope ["_law_found", "_law_due"] ["_law_found", "_law_due"] (defScope sRowIs) := ⟨rfl, rfl, rfl, by decide +kernel, rfl, by decide +kernel, by decide +kernel⟩
def spRowIs : Sp := fun vs H Q _ => ∃ (a b : Addr) (xs : List Nat), vs = [.ref a, .ref b] ∧ H a = some (.lst (NV xs)) ∧ H b = some (.lst (NV xs)) ∧ xs.length ≤ 1000 ∧ ∀ H', Same H H' → Q (.bl true) H'
theorem ok_rowIs {f : Addr} {fd : FuncData} (F : Fun K "_law_row_is" "_law_row_is" sRowIs f fd) (B : Bl mg) (W : Cal P w K mg base CX0 1 "_law_whole" ["_law_thing"] (spWhole K)) : FnOk P w K mg base CX0 2 f fd ["_law_found", "_law_due"] spRowIs := by
  refine F.ok scRowIs (fun vs H Q E h => ?_) (fun cdv A outer s H vs Q E hr h => ?_)
  · obtain ⟨a, b, xs, rfl, _⟩ := h
    rfl
  · obtain ⟨a, b, xs, rfl, ha, hb, hl, k⟩ := h
    have hu : (A.deeper (PyProof.Rows.envOfC "_law_row_is" (defScope sRowIs) s.heap.objs.size f cdv)).units + 2 < cLine := by have := hr.un; omega
    refine' ⟨_, pss_one (ps_ret (pe_and (pe_callB call_isi (by rfl) B.isi PyProof.Rows.boot_isinstance (pa_cons (pv 0) (pa_cons (pe_bltn (v := .ty "list") rfl B.lst PyProof.Rows.boot_list rfl) pa_nil)))
      (pe_and (pe_cmpR (op_eqL (e := eqV) hu) (pv 0) (pv 1) (nomark _)) (pe_one (pe_callB (call_allB rfl) (by rfl) B.all PyProof.Rows.boot_all (pa_cons ?c pa_nil)))))), ?_⟩
    case c =>
      refine' pe_comp (g := gName 0) (te := tCall (spWhole K) [] E0 (tCons (tVar 0) tNil)) (NB := ["_law_one"]) (src := [none]) (blk_of (by kernel_rfl)) rfl (pi_list (pv 0)) ?g ?t ?e
      case g => exact fun cl C s₃ H₃ fp => pg_name (i := 0) nbOne rfl (Or.inl rfl) (Or.inr rfl)
      case t => exact fun cl C s₃ H₃ fp => pts_nil
      case e => exact fun cl C s₃ H₃ fp => pe_cal W hr pass0 (pa_cons (pv 0) pa_nil)
    refine ⟨_, rfl, _, _, _, .type "list", true, rfl, ⟨rfl, kit_list⟩, .of (.lst ha), true, rfl, ?_⟩
    refine ⟨_, rfl, _, rfl, a, b, _, _, rfl, rfl, SqL.of ha, SqL.of hb, fun i _ _ => nv_elEq, _, rfl, ?_⟩
    rw [if_neg Bool.false_ne_true, allEq_self]
    refine ⟨_, rfl, a, rfl, ⟨_, SqL.of ha⟩, fun D hD => ?_⟩
    refine comp_list (xs := NV xs) (fun i ys σ H2 => (∃ a, σ = [a]) ∧ Same H H2 ∧ H2 D = some (.lst ys) ∧ ys = (List.replicate i true).map V.bl) ⟨⟨_, rfl⟩, same_new hD, upd_same, rfl⟩ (fun i ys σ H2 _ z => SqL.of (z.2.1 _ _ ha)) ?_ ?_
    · rintro i x ys σ H2 Kt Kf hx ⟨⟨a', rfl⟩, sm, hD2, rfl⟩ kt kf
      obtain ⟨v, hv, rfl⟩ := nv_at hx
      have hi : i < xs.length := (List.getElem?_eq_some_iff.mp hv).1
      refine ⟨_, rfl, _, some (v : Int), rfl, .int _, kt _ _ _ hD2 ?_ ⟨⟨_, rfl⟩, same_put sm hD, upd_same, ?_⟩⟩
      · rw [List.length_map, List.length_replicate]; exact Nat.lt_of_lt_of_le (show i < 1000 by omega) (by decide)
      · rw [List.replicate_succ', List.map_append]; rfl
    · rintro ys σ H2 ⟨_, sm, hD2, rfl⟩
      refine ⟨D, List.replicate (NV xs).length true, rfl, SqL.of hD2, ?_⟩
      have e : (List.replicate (NV xs).length true).all id = true := List.all_eq_true.mpr fun b hb => by rw [List.eq_of_mem_replicate hb]; rfl
      rw [e]
      exact k _ sm
end
end K12
namespace K12
open PySem L2 NetM
section
variable {P : Program} {w : World} {K : PySem.W.Frag} {mg : Str → Option Value} {base : Heap}
theorem scTells : FnScope ["_law_net_here", "_law_many", "_law_ties", "_law_leads_here", "_law_fars_here", "_law_house", "_law_told", "_law_home", "_law_near"] ["_law_net_here", "_law_many", "_law_ties"] (defScope sTells) := ⟨rfl, rfl, rfl, by decide +kernel, rfl, by decide +kernel, by decide +kernel⟩
def spTells (C : Addr) : Sp := fun vs H Q _ => ∃ (L : Addr → Prop) (p : Addr) (n : Nat) (l : Addr) (zs : Zs), vs = [.ref p, .int n, .ref l] ∧ NetAt C H L p n (zp zs) ∧ TiesAt H l n zs ∧ ∀ H', Same H H' → Q (.bl true) H'
theorem ok_tells {f C CE : Addr} {fd : FuncData} (F : Fun K "_law_tells" "_law_tells" sTells f fd) (B : Bl mg) (T : NT K mg C) (W : Cal P w K mg base CX0 1 "_law_whole" ["_law_thing"] (spWhole K)) (RI : Cal P w K mg base CX0 2 "_law_row_is" ["_law_found", "_law_due"] spRowIs)
    (LE : Cal P w K mg base CX0 1 "_law_leads" ["_law_many", "_law_ties"] spLeads) (FA : Cal P w K mg base CX0 1 "_law_fars" ["_law_leads_here", "_law_house"] spFars)
    (MO : MCal P w K mg base (CXf P w) 5 C "out" ["self", "house"] (spAsk K C CE aOut)) (MF : MCal P w K mg base (CXf P w) 5 C "far" ["self", "one", "other"] (spFar K C CE)) (MG : MCal P w K mg base (CXf P w) 6 C "good" ["self", "house", "home"] (spGood K C CE)) (MS : MCal P w K mg base CX0 1 C "span" ["self"] (spSpan C)) :
    FnOk P w K mg base CX0 7 f fd ["_law_net_here", "_law_many", "_law_ties"] (spTells C) := by
  obtain ⟨fO, fdO, mO, bO, GO⟩ := MO.ex
  obtain ⟨fF, fdF, mF, bF, GF⟩ := MF.ex
  obtain ⟨fG, fdG, mG, bG, GG⟩ := MG.ex
  obtain ⟨fS, fdS, mS, bS, GS⟩ := MS.ex
  refine F.ok scTells (fun vs H Q E h => ?_) (fun cdv A outer s H vs Q E hr h => ?_)
  · obtain ⟨L, p, n, l, zs, rfl, _⟩ := h
    rfl
  · obtain ⟨L, p, n, l, zs, rfl, N, TT, k⟩ := h
    have h1 : Room 1 _ := hr.mono (by decide)
    have h2 : Room 2 _ := hr.mono (by decide)
    have h5 : Room 5 _ := hr.mono (by decide)
    refine' ⟨_, pss_cons (ps_set (i := 3) scTells.nd rfl (Or.inr rfl) (pe_cal LE h1 pass0 (pa_cons (pv 1) (pa_cons (pv 2) pa_nil))))
      (pss_cons (ps_set (i := 4) scTells.nd rfl (Or.inr rfl) ?c1)
      (pss_cons (ps_for PassesOwn.never rfl (pi_range1 rfl B.range (pa_cons (pv 1) pa_nil)) (pg_name (i := 5) scTells.nd rfl (Or.inr rfl))
        (pss_cons (ps_if (pt_not (pt_val (pe_cal RI h2 pass0 (pa_cons (pe_meth (pv 0) T.cl mO GO h5 bO .nil passN (pa_cons (pv 5) pa_nil)) (pa_cons (pe_ix ix_list (pv 3) (pv 5) (fun _ _ => rfl)) pa_nil))))) pss_never pss_nil)
        (pss_cons (ps_setComp (i := 6) (g := gName 0) (te := tMeth C "far" (spFar K C CE) [] E0 (tVar 1) (tCons (tVar 2) (tCons (tVar 0) tNil))) (NB := ["_law_home", "_law_net_here", "_law_house"]) (src := [none, some 0, some 5]) (blk_of (by kernel_rfl)) rfl (pi_range1 rfl B.range (pa_cons (pv 1) pa_nil)) ?g2 ?t2 ?e2 scTells.nd rfl rfl rfl)
        (pss_cons (ps_if (pt_not (pt_val (pe_cal RI h2 pass0 (pa_cons (pv 6) (pa_cons (pe_ix ix_list (pv 4) (pv 5) (fun _ _ => rfl)) pa_nil))))) pss_never pss_nil)
        (pss_one (ps_for PassesOwn.never rfl (pi_range1 rfl B.range (pa_cons (pv 1) pa_nil)) (pg_name (i := 7) scTells.nd rfl (Or.inr rfl))
          (pss_cons (ps_setComp (i := 8) (g := gName 0) (tt := tTest (tOp (rI0 fun i j => .bl (decide (i < j))) (tOp (rIxL K) (tOp (rIxL K) (tVar 1) (tVar 0)) (tVar 2)) (tOp (rIxL K) (tOp (rIxL K) (tVar 1) (tVar 3)) (tVar 2)))) (te := tVar 0) (NB := ["_law_other", "_law_fars_here", "_law_home", "_law_house"]) (src := [none, some 4, some 7, some 5]) (blk_of (by kernel_rfl)) rfl (pi_list (pe_ix ix_list (pv 3) (pv 5) (fun _ _ => rfl))) ?g3 ?t3 ?e3 scTells.nd rfl rfl rfl)
          (pss_one (ps_if (pt_not (pt_val (pe_cal RI h2 pass0 (pa_cons (pe_meth (pv 0) T.cl mG GG hr bG .nil passN (pa_cons (pv 5) (pa_cons (pv 7) pa_nil))) (pa_cons (pv 8) pa_nil))))) pss_never pss_nil)))))))))
      (pss_one (ps_ret (pe_and (pe_cal W h1 pass0 (pa_cons (pe_meth0 (pv 0) T.cl mS GS h1 bS .nil pass0) pa_nil))
        (pe_one (pe_cmpR op_eq (pe_meth0 (pv 0) T.cl mS GS h1 bS .nil pass0) (pe_callB (call_maxL rfl) (by rfl) B.max PyProof.Rows.boot_max (pa_cons ?c4 pa_nil)) (nomark _)))))))), ?_⟩
    case c1 =>
      refine' pe_comp (g := gName 0) (te := tCall spFars [] E0 (tCons (tVar 1) (tCons (tVar 0) tNil))) (NB := ["_law_house", "_law_leads_here"]) (src := [none, some 3]) (blk_of (by kernel_rfl)) rfl (pi_range1 rfl B.range (pa_cons (pv 1) pa_nil)) ?g ?t ?e
      case g => exact fun cl C s₃ H₃ fp => pg_name (i := 0) nbHL rfl (Or.inl rfl) (Or.inr rfl)
      case t => exact fun cl C s₃ H₃ fp => pts_nil
      case e => exact fun cl C s₃ H₃ fp => pe_cal FA h1 pass0 (pa_cons (pv 1) (pa_cons (pv 0) pa_nil))
    case g2 => exact fun cl C s₃ H₃ fp => pg_name (i := 0) nbHN rfl (Or.inl rfl) (Or.inr rfl)
    case t2 => exact fun cl C s₃ H₃ fp => pts_nil
    case e2 => exact fun cl C' s₃ H₃ fp => pe_meth (pv 1) T.cl mF GF h5 bF .nil passN (pa_cons (pv 2) (pa_cons (pv 0) pa_nil))
    case g3 => exact fun cl C s₃ H₃ fp => pg_name (i := 0) nbOF rfl (Or.inl rfl) (Or.inr rfl)
    case t3 => exact fun cl C s₃ H₃ fp => pts_one (pt_cmpR op_lt (pe_ix ix_list (pe_ix ix_list (pv 1) (pv 0) (fun _ _ => rfl)) (pv 2) (fun _ _ => rfl)) (pe_ix ix_list (pe_ix ix_list (pv 1) (pv 3) (fun _ _ => rfl)) (pv 2) (fun _ _ => rfl)) (nomark _))
    case e3 => exact fun cl C s₃ H₃ fp => pv 0
    case c4 =>
      refine' pe_comp (g := gName 0) (te := tCB (rMaxL K) (tCons (tVar 0) tNil)) (NB := ["_law_row"]) (src := [none]) (blk_of (by kernel_rfl)) rfl (pi_list (pv 4)) ?g ?t ?e
      case g => exact fun cl C s₃ H₃ fp => pg_name (i := 0) nbLR rfl (Or.inl rfl) (Or.inr rfl)
      case t => exact fun cl C s₃ H₃ fp => pts_nil
      case e => exact fun cl C s₃ H₃ fp => pe_callB (call_maxL rfl) (by rfl) B.max PyProof.Rows.boot_max (pa_cons (pv 0) pa_nil)
    generalize hts : zp zs = ts at N
    have fi := N.fine
    have n1 := fi.n1
    have n2 := fi.n2
    refine ⟨_, rfl, _, rfl, n, l, zs, rfl, TT, fun LL H1 s1 hLL O1 => ?_⟩
    rw [hts] at O1
    refine ⟨_, rfl, n, rfl, by omega, by omega, fun FF hFF => ?_⟩
    refine comp_range (n := n) (lo := 0) (fun i ys σ H2 => (∃ a, σ = [a, some (.ref LL)]) ∧ Same H1 H2 ∧ ∃ bs : List Addr, ys = bs.map V.ref ∧ (∀ b ∈ bs, b ≠ FF) ∧ Holds H2 bs i (fun h => .lst (NV ((List.range n).map (far ts h)))) ∧ H2 FF = some (.lst ys)) ⟨⟨_, rfl⟩, same_new hFF, [], rfl, (fun _ h => nomatch h), Holds.nil, upd_same⟩ ?_ ?_
    · rintro i ys σ H2 Kt Kf hi ⟨⟨a, rfl⟩, sm2, bs, rfl, hbF, hb, hF2⟩ kt kf
      refine ⟨_, rfl, _, rfl, LL, n, i, ts, by rw [Int.zero_add]; rfl, fi, hi, O1.same sm2, fun r H3 s3 hr3 hr3' => ?_⟩
      have hF3 := s3 _ _ hF2
      have nrF : r ≠ FF := by rintro rfl; rw [hF2] at hr3; cases hr3
      have keepD : ∀ b o ys', H3 b = some o → b ≠ FF → (upd H3 FF ys') b = some o := fun b o ys' e h => by rw [upd_ne h]; exact e
      refine kt _ _ _ hF3 (by rw [List.length_map, hb.1]; exact Nat.lt_of_lt_of_le hi (Nat.le_trans n2 (by decide))) ⟨⟨_, rfl⟩, same_put (sm2.trans s3) hFF, bs ++ [r], by rw [List.map_append]; rfl, ?_, ?_, upd_same⟩
      · intro b hb'
        rcases List.mem_append.mp hb' with z | z
        · exact hbF b z
        · rw [List.mem_singleton.mp z]; exact nrF
      · refine Holds.snoc (hb.mono fun j hj e => keepD _ _ _ (s3 _ _ e) (hbF _ ?_)) (keepD _ _ _ hr3' nrF)
        rw [List.getD_eq_getElem?_getD, List.getElem?_eq_getElem (by rw [hb.1]; exact hj)]; exact List.getElem_mem _
    · rintro ys σ H2 ⟨_, sm2, bs, rfl, hbF, hb, hF2⟩
      have R2 : Rows H2 FF n (fun h => (List.range n).map (far ts h)) := ⟨bs, hF2, hb⟩
      have O2 : Rows H2 LL n (outN n ts) := O1.same sm2
      have s02 : Same H H2 := s1.trans sm2
      have N2 : NetAt C H2 L p n ts := N.same s02
      have hg : ∀ i j, j < n → (NV ((List.range n).map (far ts i)))[j]? = some (.int ((far ts i j : Nat) : Int)) := fun i j hj => by rw [List.getElem?_map, List.getElem?_map, List.getElem?_range hj]; rfl
      clear hbF hb hF2 O1 sm2 s1
      refine ⟨_, rfl, n, rfl, by omega, by omega, for_range (lo := 0) (n := n) (fun i σ H3 => (∃ a b c d, σ = [some (.ref p), some (.int n), some (.ref l), some (.ref LL), some (.ref FF), a, b, c, d]) ∧ Same H2 H3) ⟨⟨_, _, _, _, rfl⟩, Same.refl _⟩ ?_ ?_⟩
      · rintro i σ H3 hi ⟨⟨a, b, c, d, rfl⟩, s3⟩
        rw [Int.zero_add]
        have N3 := N2.same s3
        obtain ⟨dx, tl, ol, ds, e1, _⟩ := N3.ob
        obtain ⟨bsO, bO', o1, o2, o3⟩ := (O2.same s3).row hi
        refine ⟨_, rfl, p, dx, _, rfl, e1, nout _ _ _ _, _, rfl, L, p, n, ts, _, some (i : Int), rfl, N3, .int _, fun z => absurd z (by rw [within_of hi]; decide), fun i' hi' ei => ?_⟩
        obtain rfl : i = i' := Int.ofNat.inj (Option.some.inj ei)
        intro r4 H4 s4 hr4 hr4'
        refine ⟨_, rfl, _, rfl, LL, _, _, _, rfl, rfl, SqL.of (s4 _ _ o1), atI_nat o2, r4, bO', outN n ts i, rfl, hr4', s4 _ _ o3, Nat.le_trans (Nat.le_trans (List.length_filter_le _ _) (by simp)) (Nat.le_trans n2 (by decide)), fun H5 s5 => ⟨_, rfl, iteF ?_⟩⟩
        have s35 : Same H2 H5 := (s3.trans s4).trans s5
        refine ⟨_, rfl, n, rfl, by omega, by omega, fun D1 hD1 => ?_⟩
        refine comp_range (n := n) (lo := 0) (fun j ys σ H6 => (∃ a, σ = [a, some (.ref p), some (.int (i : Int))]) ∧ Same H5 H6 ∧ H6 D1 = some (.lst ys) ∧ ys = NV ((List.range j).map (far ts i))) ⟨⟨_, rfl⟩, same_new hD1, upd_same, rfl⟩ ?_ ?_
        · rintro j ys σ H6 Kt Kf hj ⟨⟨a', rfl⟩, s6, hD6, rfl⟩ kt kf
          have N6 := N2.same (s35.trans s6)
          obtain ⟨dx6, tl6, ol6, ds6, e6, _⟩ := N6.ob
          refine ⟨_, rfl, p, dx6, _, rfl, e6, nfar _ _ _ _, _, rfl, _, rfl, L, p, n, ts, _, some (i : Int), _, some (0 + (j : Int)), rfl, N6, .int _, .int _, fun z => ?_, fun i1 j1 h1' h2' e1' e2' => ?_⟩
          · rw [Int.zero_add] at z
            rw [within_of hi, within_of hj] at z
            rcases z with z | z <;> cases z
          · rw [Int.zero_add] at e2'
            obtain rfl : i = i1 := Int.ofNat.inj (Option.some.inj e1')
            obtain rfl : j = j1 := Int.ofNat.inj (Option.some.inj e2')
            refine kt _ _ _ hD6 ?_ ⟨⟨_, rfl⟩, same_put s6 hD1, upd_same, ?_⟩
            · rw [nv_len, List.length_map, List.length_range]; exact Nat.lt_of_lt_of_le (show j < 33 by omega) (by decide)
            · rw [nv_snoc, List.range_succ, List.map_append]; rfl
        · rintro ys σ H6 ⟨_, s6, hD6, rfl⟩
          have s26 : Same H2 H6 := s35.trans s6
          obtain ⟨bsF, bF', f1, f2, f3⟩ := (R2.same s26).row hi
          refine ⟨_, rfl, _, rfl, _, rfl, FF, _, _, _, rfl, rfl, SqL.of f1, atI_nat f2, D1, bF', _, rfl, hD6, f3, by simp; omega, fun H7 s7 => ⟨_, rfl, iteF ?_⟩⟩
          have s27 : Same H2 H7 := s26.trans s7
          refine ⟨_, rfl, n, rfl, by omega, by omega, for_range (lo := 0) (n := n) (fun j σ H8 => (∃ c d, σ = [some (.ref p), some (.int n), some (.ref l), some (.ref LL), some (.ref FF), some (.int (i : Int)), some (.ref D1), c, d]) ∧ Same H2 H8) ⟨⟨_, _, rfl⟩, s27⟩ ?_ ?_⟩
          · rintro j σ H8 hj ⟨⟨c', d', rfl⟩, s8⟩
            rw [Int.zero_add]
            have R8 := R2.same s8
            obtain ⟨bsO8, bO8, p1, p2, p3⟩ := (O2.same s8).row hi
            refine ⟨_, rfl, _, rfl, LL, _, _, _, rfl, rfl, SqL.of p1, atI_nat p2, bO8, rfl, ⟨_, SqL.of p3⟩, fun D2 hD2 => ?_⟩
            have hol' : (outN n ts i).length ≤ 32 := Nat.le_trans (Nat.le_trans (List.length_filter_le _ _) (by simp)) n2
            refine comp_fn (fun o => decide (far ts o j < far ts i j)) (fun σ => ∃ a, σ = [a, some (.ref FF), some (.int (j : Int)), some (.int (i : Int))]) p3 hD2 (by omega) ⟨_, rfl⟩ ?_ ?_
            · rintro v σ H9 Kt Kf hv ⟨a', rfl⟩ s9 kt kf
              have hvn : v < n := outN_lt fi hi hv
              obtain ⟨b1, c1, x1, x2, x3⟩ := (R8.same s9).row hvn
              obtain ⟨b2, c2, y1, y2, y3⟩ := (R8.same s9).row hi
              refine ⟨_, rfl, _, rfl, FF, _, _, _, rfl, rfl, SqL.of x1, atI_nat x2, _, rfl, c1, _, _, _, rfl, rfl, SqL.of x3, atI_nat (hg v j hj), _, rfl, _, rfl, FF, _, _, _, rfl, rfl, SqL.of y1, atI_nat y2, _, rfl, c2, _, _, _, rfl, rfl, SqL.of y3, atI_nat (hg i j hj), _, _, rfl, rfl, _, rfl, ?_⟩
              refine ite2 (fun e => ?_) (fun e => ?_)
              · exact ⟨_, rfl, kt _ _ ⟨_, rfl⟩ (Same.refl _) (by simp at e ⊢; omega)⟩
              · exact kf _ _ ⟨_, rfl⟩ (Same.refl _) (by simp at e ⊢; omega)
            · intro H9 s9 hD9
              have s29 : Same H2 H9 := s8.trans s9
              have N9 := N2.same s29
              obtain ⟨dx9, tl9, ol9, ds9, e9, _⟩ := N9.ob
              refine ⟨_, rfl, p, dx9, _, rfl, e9, ngood _ _ _ _, _, rfl, _, rfl, L, p, n, ts, _, some (i : Int), _, some (j : Int), rfl, N9, .int _, .int _, fun z => ?_, fun i1 j1 h1' h2' e1' e2' => ?_⟩
              · rw [within_of hi, within_of hj] at z
                rcases z with z | z <;> cases z
              · obtain rfl : i = i1 := Int.ofNat.inj (Option.some.inj e1')
                obtain rfl : j = j1 := Int.ofNat.inj (Option.some.inj e2')
                intro r10 H10 s10 hr10 hr10'
                refine ⟨_, rfl, r10, D2, goodN n ts i j, rfl, hr10', s10 _ _ hD9, ?_, fun H11 s11 => ⟨_, rfl, iteF ⟨⟨_, _, rfl⟩, (s29.trans s10).trans s11⟩⟩⟩
                exact Nat.le_trans (List.length_filter_le _ _) (by omega)
          · rintro σ H8 ⟨⟨c', d', rfl⟩, s8⟩
            exact ⟨⟨_, _, _, _, rfl⟩, s8⟩
      · rintro σ H3 ⟨⟨a, b, c, d, rfl⟩, s3⟩
        have N3 := N2.same s3
        obtain ⟨dx, tl, ol, ds, e1, _⟩ := N3.ob
        refine ⟨_, rfl, p, dx, _, rfl, e1, nspan _ _ _ _, L, p, n, ts, rfl, N3, fun M H4 s4 sp4 => ⟨_, some (M : Int), rfl, .int _, true, rfl, ?_⟩⟩
        have N4 := N3.same s4
        obtain ⟨dx4, tl4, ol4, ds4, e4, _⟩ := N4.ob
        refine ⟨_, rfl, p, dx4, _, rfl, e4, nspan _ _ _ _, L, p, n, ts, rfl, N4, fun M5 H5 s5 sp5 => ?_⟩
        obtain rfl := sp4.uniq sp5
        have s25 : Same H2 H5 := (s3.trans s4).trans s5
        obtain ⟨bs5, q1, q2⟩ := R2.same s25
        refine ⟨_, rfl, FF, rfl, ⟨_, SqL.of q1⟩, fun D hD => ?_⟩
        refine comp_list (xs := bs5.map V.ref) (fun i ys σ H6 => (∃ a, σ = [a]) ∧ Same H5 H6 ∧ H6 D = some (.lst ys) ∧ ∃ ms : List Nat, ys = NV ms ∧ ms.length = i ∧ (∀ k (hk : k < ms.length), (∃ j, j < n ∧ ms[k] = far ts k j) ∧ ∀ j, j < n → far ts k j ≤ ms[k])) ⟨⟨_, rfl⟩, same_new hD, upd_same, [], rfl, rfl, fun k hk => absurd hk (by simp)⟩ (fun i ys σ H6 _ z => SqL.of (z.2.1 _ _ q1)) ?_ ?_
        · rintro i x ys σ H6 Kt Kf hx ⟨⟨a', rfl⟩, s6, hD6, ms, rfl, hml, hm⟩ kt kf
          obtain ⟨hi, rfl⟩ := getAs hx
          rw [q2.1] at hi
          have hrow := s6 _ _ (q2.2 i hi)
          have eRow : NV ((List.range n).map (far ts i)) = IV ((List.range n).map (fun x => ((far ts i x : Nat) : Int))) := by unfold NV IV; rw [List.map_map, List.map_map]; rfl
          refine ⟨_, rfl, _, (List.range n).map (fun x => ((far ts i x : Nat) : Int)), rfl, SqL.of (hrow.trans (congrArg (fun l => some (HO.lst l)) eRow)), ?_, fun M6 hM1 hM2 => ?_⟩
          · intro z
            have := congrArg List.length z
            rw [List.length_map, List.length_range, List.length_nil] at this
            omega
          · obtain ⟨j, hj, rfl⟩ := List.mem_map.mp hM1
            have hj' := List.mem_range.mp hj
            refine kt _ _ _ hD6 (by rw [nv_len, hml]; exact Nat.lt_of_lt_of_le hi (Nat.le_trans n2 (by decide))) ⟨⟨_, rfl⟩, same_put s6 hD, upd_same, ms ++ [far ts i j], nv_snoc, by rw [List.length_append, hml]; rfl, fun k hk => ?_⟩
            by_cases hk' : k < ms.length
            · rw [List.getElem_append_left hk']; exact hm k hk'
            · have : k = ms.length := by rw [List.length_append] at hk; simp at hk; omega
              subst this
              rw [List.getElem_append_right (Nat.le_refl _)]
              simp only [Nat.sub_self, List.getElem_cons_zero]
              rw [hml]
              refine ⟨⟨j, hj', rfl⟩, fun j2 hj2 => ?_⟩
              have := hM2 _ (List.mem_map.mpr ⟨j2, List.mem_range.mpr hj2, rfl⟩)
              omega
        · rintro ys σ H6 ⟨_, s6, hD6, ms, rfl, hml, hm⟩
          rw [List.length_map, q2.1] at hml
          refine ⟨D, ms.map (fun (x : Nat) => (x : Int)), rfl, SqL.of (by rw [hD6, nv_iv]), ?_, fun M6 hM1 hM2 => ?_⟩
          · intro z
            have := congrArg List.length z
            rw [List.length_map, List.length_nil] at this
            omega
          · obtain ⟨m6, hmm, rfl⟩ := List.mem_map.mp hM1
            obtain ⟨k', hk', rfl⟩ := List.mem_iff_getElem.mp hmm
            have spM : IsSpan n ts ms[k'] := by
              refine ⟨?_, fun i j hi hj => ?_⟩
              · obtain ⟨⟨j, hj, e⟩, _⟩ := hm k' hk'
                exact ⟨k', j, by omega, hj, e⟩
              · have h1 := (hm i (by omega)).2 j hj
                have h2 := hM2 _ (List.mem_map.mpr ⟨_, List.getElem_mem (show i < ms.length by omega), rfl⟩)
                omega
            obtain e := sp4.uniq spM
            refine ⟨rfl, ?_⟩
            rw [← e]
            rw [show decide (V.int ((M : Nat) : Int) = V.int ((M : Nat) : Int)) = true by simp]
            exact k _ ((s02.trans s25).trans s6)
end
end K12
namespace L2
open PySem PySem.Spec PyProof.Rows
def tTryX (K : PySem.W.Frag) (Dc : Addr) (i : Nat) (tb : (St → XK) → TS) (th : TS) : TS := fun D σ H => ∃ E, tTry K Dc i E (tb E) th D σ H
theorem ps_tryX {X : Cx} {body suite : List Stmt} {b₀ : Stmt} {x n : Str} {np hpos pos : Pos} {Dc : Addr} {i : Nat} {tb : (St → XK) → TS} {th : TS} (TD : ECls X.K Dc) (hg : Gl X x) (hm : X.mg x = some (.ref Dc)) (hst : X.stack = X.env :: X.outer) (hfr : X.env.frame = some X.env.locals)
    (hN : X.N.Nodup) (hi : X.N[i]? = some n) (hn : X.env.scope.names.lookup n = some .local)
    (hb : ∀ E pn xe, PassesS (CXf X.prog X.w) (X.trying pn xe) E → PSs (X.trying pn xe) body (tb E)) (hh : ∀ pn p, PSs (X.handling pn p) (b₀ :: suite) th) (hdb : (x == ("__debug__" : Str)) = false := by decide) :
    PS X (.Try body [.ExceptHandler (some (.Name x np)) (some n) (b₀ :: suite) hpos] [] [] pos) (tTryX X.K Dc i tb th) := by
  intro pins s σ H D I h
  obtain ⟨E, h⟩ := h
  exact ps_try (E := E) TD hg hm hst hfr hN hi hn (hb E) hh hdb pins s σ H D I h
end L2
namespace K12
open PySem L2 NetM
abbrev sAsked : Stmt := top 44
abbrev sRefused : Stmt := top 45
abbrev sRefuses : Stmt := top 46
abbrev sEmptied : Stmt := top 47
structure CalW (P : Program) (w : World) (K : PySem.W.Frag) (mg : Str → Option Value) (base : Heap) (k : Nat) (x : Str) (ps : List Str) (sp : Sp) : Prop where
  ex : ∃ f fd, mg x = some (.ref f) ∧ PySem.W.keepIn K (.ref f) = true ∧ Binds K fd ps [] ∧ FnOkW P w K mg base (CXf P w) k f fd ps sp
theorem pe_calS {X : Cx} {CX : CXT} {k : Nat} {x : Str} {ps : List Str} {sp : Sp} {E : St → XK} {e : Expr} {es : List Expr} {t : TA} {p pos : Pos} (C : Cal X.prog X.w X.K X.mg X.base CX k x ps sp) (hr : Room k X.A) (hx : PassesS CX X E) (ha : PA X (e :: es) t) (hg : Gl X x := by rfl)
    (hdb : (x == ("__debug__" : Str)) = false := by decide) (he : starEach (e :: es) X.env = (false, eval e X.env) :: starEach es X.env := by rfl) (hpl : (backTo pos (starEach es X.env)).any (·.1) = false := by rfl) :
    PE X (.Call (.Name x p) (e :: es) [] pos) (tCallS sp [] E t) := by
  obtain ⟨f, fd, a, b, c, d⟩ := C.ex
  exact pe_callS d hr hg a b c .nil hx ha hdb he hpl
theorem pe_calW {X : Cx} {k : Nat} {x : Str} {ps : List Str} {sp : Sp} {E : XK} {e : Expr} {es : List Expr} {t : TA} {p pos : Pos} (C : CalW X.prog X.w X.K X.mg X.base k x ps sp) (hr : RoomW k X.A) (hx : Passes (CXf X.prog X.w) X E) (ha : PA X (e :: es) t) (hg : Gl X x := by rfl)
    (hdb : (x == ("__debug__" : Str)) = false := by decide) (he : starEach (e :: es) X.env = (false, eval e X.env) :: starEach es X.env := by rfl) (hpl : (backTo pos (starEach es X.env)).any (·.1) = false := by rfl) :
    PE X (.Call (.Name x p) (e :: es) [] pos) (tCall sp [] E t) := by
  obtain ⟨f, fd, a, b, c, d⟩ := C.ex
  exact pe_callW d hr hg a b c .nil hx ha hdb he hpl
theorem bVerr : bootBuiltins "ValueError" = some (.type "ValueError") := by decide +kernel
structure Errs (K : PySem.W.Frag) (mg : Str → Option Value) (cB CE : Addr) (c : Nat → Addr) : Prop where
  beat : Er K mg "BeatError" cB
  house : Er K mg "NoHouse" CE
  e0 : mg "NoBerth" = some (.ref (c 0))
  e1 : mg "NoHanding" = some (.ref (c 1))
  e2 : mg "NoNet" = some (.ref (c 2))
  e3 : mg "NoPlan" = some (.ref (c 3))
  e4 : mg "NoRanks" = some (.ref (c 4))
  e5 : mg "NoRow" = some (.ref (c 5))
  e6 : mg "NoShape" = some (.ref (c 6))
  e7 : mg "NoStand" = some (.ref (c 7))
  e8 : mg "NoText" = some (.ref (c 8))
  e9 : mg "NoTie" = some (.ref (c 9))
  e10 : mg "TooMany" = some (.ref (c 10))
  ka : PySem.W.kitAny K (.ref CE) ([c 0, c 1, c 2, c 3, c 4, c 5, c 6, c 7, c 8, c 9, c 10].map Value.ref) = some false
  kh : PySem.W.kitOne K (.ref CE) (.ref CE) = some true
  kv : PySem.W.kitOne K (.ref CE) (.type "ValueError") = some true
  sb : PySem.W.subIn K (.ref CE) (.ref cB) = some true
section
variable {P : Program} {w : World} {K : PySem.W.Frag} {mg : Str → Option Value} {base : Heap}
theorem scAsked : FnScope ["_law_deed", "_law_net_here", "_law_thing"] ["_law_deed", "_law_net_here", "_law_thing"] (defScope sAsked) := ⟨rfl, rfl, rfl, by decide +kernel, rfl, by decide +kernel, by decide +kernel⟩
def Asks (K : PySem.W.Frag) (C : Addr) (vs : List V) (H : Hp) (k : Prop) : Prop := ∃ (L : Addr → Prop) (p : Addr) (n : Nat) (ts : Ts) (d : Nat) (x : V) (o : Option Int), vs = [.int d, .ref p, x] ∧ d < 6 ∧ NetAt C H L p n ts ∧ Wh K H x o ∧ within o 0 ((n : Int) - 1) = false ∧ k
def spAsked (K : PySem.W.Frag) (C CE : Addr) : Sp := fun vs H _ E => Asks K C vs H (E (.ref CE) none H)
theorem ok_asked {f C CE : Addr} {fd : FuncData} (F : Fun K "_law_asked" "_law_asked" sAsked f fd) (T : NT K mg C)
    (MO : MCal P w K mg base (CXf P w) 5 C "out" ["self", "house"] (spAsk K C CE aOut)) (MF : MCal P w K mg base (CXf P w) 5 C "far" ["self", "one", "other"] (spFar K C CE)) (MG : MCal P w K mg base (CXf P w) 6 C "good" ["self", "house", "home"] (spGood K C CE)) :
    FnOk P w K mg base (CXf P w) 7 f fd ["_law_deed", "_law_net_here", "_law_thing"] (spAsked K C CE) := by
  obtain ⟨fO, fdO, mO, bO, GO⟩ := MO.ex
  obtain ⟨fF, fdF, mF, bF, GF⟩ := MF.ex
  obtain ⟨fG, fdG, mG, bG, GG⟩ := MG.ex
  refine F.okX scAsked (fun vs H Q E h => ?_) (fun cdv A outer s H vs Q E hr h => ?_)
  · obtain ⟨L, p, n, ts, d, x, o, rfl, _⟩ := h
    rfl
  · obtain ⟨L, p, n, ts, d, x, o, rfl, hd, N, wh, hw, k⟩ := h
    have h5 : Room 5 _ := hr.mono (by decide)
    refine ⟨_, (pss_cons (ps_if (pt_cmpR op_eq (pv 0) pe_int (nomark _)) (pss_one (ps_ret (pe_meth (pv 1) T.cl mO GO h5 bO .nil (passX (E' := E) fun _ _ _ z => z) (pa_cons (pv 2) pa_nil)))) pss_nil)
      (pss_cons (ps_if (pt_cmpR op_eq (pv 0) pe_int (nomark _)) (pss_one (ps_ret (pe_meth (pv 1) T.cl mF GF h5 bF .nil (passX (E' := E) fun _ _ _ z => z) (pa_cons (pv 2) (pa_cons pe_int pa_nil))))) pss_nil)
      (pss_cons (ps_if (pt_cmpR op_eq (pv 0) pe_int (nomark _)) (pss_one (ps_ret (pe_meth (pv 1) T.cl mG GG hr bG .nil (passX (E' := E) fun _ _ _ z => z) (pa_cons (pv 2) (pa_cons pe_int pa_nil))))) pss_nil)
      (pss_cons (ps_if (pt_cmpR op_eq (pv 0) pe_int (nomark _)) (pss_one (ps_ret (pe_meth (pv 1) T.cl mF GF h5 bF .nil (passX (E' := E) fun _ _ _ z => z) (pa_cons pe_int (pa_cons (pv 2) pa_nil))))) pss_nil)
      (pss_cons (ps_if (pt_cmpR op_eq (pv 0) pe_int (nomark _)) (pss_one (ps_ret (pe_meth (pv 1) T.cl mG GG hr bG .nil (passX (E' := E) fun _ _ _ z => z) (pa_cons pe_int (pa_cons (pv 2) pa_nil))))) pss_nil)
      (pss_one (ps_ret (pe_meth (pv 1) T.cl mF GF h5 bF .nil (passX (E' := E) fun _ _ _ z => z) (pa_cons (pv 2) (pa_cons (pv 2) pa_nil)))))))))), ?_⟩
    obtain ⟨dx, tl, ol, ds, hn, _⟩ := N.ob
    have : d = 0 ∨ d = 1 ∨ d = 2 ∨ d = 3 ∨ d = 4 ∨ d = 5 := by omega
    rcases this with rfl | rfl | rfl | rfl | rfl | rfl
    · refine ⟨_, rfl, rfl, _, rfl, iteT ?_⟩
      exact ⟨_, rfl, p, dx, _, rfl, hn, nout _ _ _ _, _, rfl, L, p, n, ts, x, o, rfl, N, wh, fun _ => k, fun i hi e => absurd hw (by rw [e, within_of hi]; decide)⟩
    · refine ⟨_, rfl, rfl, _, rfl, iteF ⟨_, rfl, rfl, _, rfl, iteT ?_⟩⟩
      exact ⟨_, rfl, p, dx, _, rfl, hn, nfar _ _ _ _, _, rfl, L, p, n, ts, x, o, V.int 0, some 0, rfl, N, wh, .int 0, fun _ => k, fun i j hi hj e e' => absurd hw (by rw [e, within_of hi]; decide)⟩
    · refine ⟨_, rfl, rfl, _, rfl, iteF ⟨_, rfl, rfl, _, rfl, iteF ⟨_, rfl, rfl, _, rfl, iteT ?_⟩⟩⟩
      exact ⟨_, rfl, p, dx, _, rfl, hn, ngood _ _ _ _, _, rfl, L, p, n, ts, x, o, V.int 0, some 0, rfl, N, wh, .int 0, fun _ => k, fun i j hi hj e e' => absurd hw (by rw [e, within_of hi]; decide)⟩
    · refine ⟨_, rfl, rfl, _, rfl, iteF ⟨_, rfl, rfl, _, rfl, iteF ⟨_, rfl, rfl, _, rfl, iteF ⟨_, rfl, rfl, _, rfl, iteT ?_⟩⟩⟩⟩
      exact ⟨_, rfl, p, dx, _, rfl, hn, nfar _ _ _ _, _, rfl, L, p, n, ts, V.int 1, some 1, x, o, rfl, N, .int 1, wh, fun _ => k, fun i j hi hj e e' => absurd hw (by rw [e', within_of hj]; decide)⟩
    · refine ⟨_, rfl, rfl, _, rfl, iteF ⟨_, rfl, rfl, _, rfl, iteF ⟨_, rfl, rfl, _, rfl, iteF ⟨_, rfl, rfl, _, rfl, iteF ⟨_, rfl, rfl, _, rfl, iteT ?_⟩⟩⟩⟩⟩
      exact ⟨_, rfl, p, dx, _, rfl, hn, ngood _ _ _ _, _, rfl, L, p, n, ts, V.int 1, some 1, x, o, rfl, N, .int 1, wh, fun _ => k, fun i j hi hj e e' => absurd hw (by rw [e', within_of hj]; decide)⟩
    · refine ⟨_, rfl, rfl, _, rfl, iteF ⟨_, rfl, rfl, _, rfl, iteF ⟨_, rfl, rfl, _, rfl, iteF ⟨_, rfl, rfl, _, rfl, iteF ⟨_, rfl, rfl, _, rfl, iteF ?_⟩⟩⟩⟩⟩
      exact ⟨_, rfl, p, dx, _, rfl, hn, nfar _ _ _ _, _, rfl, _, rfl, L, p, n, ts, x, o, x, o, rfl, N, wh, wh, fun _ => k, fun i j hi hj e e' => absurd hw (by rw [e, within_of hi]; decide)⟩
theorem scRefused : FnScope ["_law_e"] ["_law_e"] (defScope sRefused) := ⟨rfl, rfl, rfl, by decide +kernel, rfl, by decide +kernel, by decide +kernel⟩
def spRefused (CE : Addr) : Sp := fun vs H Q _ => ∃ x : Addr, vs = [.ref x] ∧ H x = some (excO x (.ref CE)) ∧ ∀ H', Same H H' → Q (.bl true) H'
theorem ok_refused {f cB CE : Addr} {c : Nat → Addr} {fd : FuncData} (F : Fun K "_law_refused" "_law_refused" sRefused f fd) (B : Bl mg) (R : Errs K mg cB CE c) : FnOkW P w K mg base (CXf P w) 1 f fd ["_law_e"] (spRefused CE) := by
  refine F.okW scRefused (fun vs H Q E h => ?_) (fun cdv A outer s H vs Q E hr h => ?_)
  · obtain ⟨x, rfl, _⟩ := h
    rfl
  · obtain ⟨x, rfl, hx, q⟩ := h
    refine ⟨_, pss_cons (ps_if (pt_val (pe_callB call_isiT (by rfl) B.isi PyProof.Rows.boot_isinstance (pa_cons (pv 0) (pa_cons (pe_tup (pa_cons (pe_glob (v := .ref (c 0)) rfl R.e0 rfl) (pa_cons (pe_glob (v := .ref (c 1)) rfl R.e1 rfl) (pa_cons (pe_glob (v := .ref (c 2)) rfl R.e2 rfl) (pa_cons (pe_glob (v := .ref (c 3)) rfl R.e3 rfl) (pa_cons (pe_glob (v := .ref (c 4)) rfl R.e4 rfl) (pa_cons (pe_glob (v := .ref (c 5)) rfl R.e5 rfl) (pa_cons (pe_glob (v := .ref (c 6)) rfl R.e6 rfl) (pa_cons (pe_glob (v := .ref (c 7)) rfl R.e7 rfl) (pa_cons (pe_glob (v := .ref (c 8)) rfl R.e8 rfl) (pa_cons (pe_glob (v := .ref (c 9)) rfl R.e9 rfl) (pa_cons (pe_glob (v := .ref (c 10)) rfl R.e10 rfl) pa_nil)))))))))))) pa_nil)))) pss_never pss_nil)
      (pss_one (ps_ret (pe_and (pe_callB call_isiC (by rfl) B.isi PyProof.Rows.boot_isinstance (pa_cons (pv 0) (pa_cons (pe_glob (v := .ref CE) rfl R.house.at_ rfl) pa_nil))) (pe_one (pe_callB call_isi (by rfl) B.isi PyProof.Rows.boot_isinstance (pa_cons (pv 0) (pa_cons (pe_bltn (v := .ty "ValueError") rfl B.verr bVerr rfl) pa_nil))))))), ?_⟩
    refine ⟨_, rfl, by show 11 ≤ sizeLine; decide, fun t ht => ⟨x, CE, t, [c 0, c 1, c 2, c 3, c 4, c 5, c 6, c 7, c 8, c 9, c 10], false, rfl, R.house.ok, (same_new ht) _ _ hx, SqT.of upd_same, R.ka, _, rfl, iteF ?_⟩⟩
    have hx' := (same_new (o := .tup ([c 0, c 1, c 2, c 3, c 4, c 5, c 6, c 7, c 8, c 9, c 10].map V.ref)) ht) _ _ hx
    exact ⟨_, rfl, _, _, _, _, rfl, R.kh, .exc R.house.ok hx', true, rfl, _, rfl, _, _, _, .ref CE, true, rfl, ⟨rfl, R.kv⟩, .exc R.house.ok hx', q _ (same_new ht)⟩
theorem scRefuses : FnScope ["_law_deed", "_law_net_here", "_law_thing", "_law_refused_here", "_law_e"] ["_law_deed", "_law_net_here", "_law_thing"] (defScope sRefuses) := ⟨rfl, rfl, rfl, by decide +kernel, rfl, by decide +kernel, by decide +kernel⟩
def spRefuses (K : PySem.W.Frag) (C : Addr) : Sp := fun vs H Q _ => Asks K C vs H (∀ H', Same H H' → Q (.bl true) H')
theorem ok_refuses {f C cB CE : Addr} {c : Nat → Addr} {fd : FuncData} (F : Fun K "_law_refuses" "_law_refuses" sRefuses f fd) (R : Errs K mg cB CE c) (AS : Cal P w K mg base (CXf P w) 7 "_law_asked" ["_law_deed", "_law_net_here", "_law_thing"] (spAsked K C CE)) (RF : CalW P w K mg base 1 "_law_refused" ["_law_e"] (spRefused CE)) :
    FnOk P w K mg base CX0 8 f fd ["_law_deed", "_law_net_here", "_law_thing"] (spRefuses K C) := by
  refine F.ok scRefuses (fun vs H Q E h => ?_) (fun cdv A outer s H vs Q E hr h => ?_)
  · obtain ⟨L, p, n, ts, d, x, o, rfl, _⟩ := h
    rfl
  · obtain ⟨L, p, n, ts, d, x, o, rfl, hd, N, wh, hw, k⟩ := h
    have h1 : Room 1 _ := hr.mono (by decide)
    refine' ⟨_, pss_cons (ps_set (i := 3) scRefuses.nd rfl (Or.inl rfl) pe_bl)
      (pss_cons (ps_tryX (i := 4) (tb := fun E => tSeq (tDrop (tCallS (spAsked K C CE) [] E (tCons (tVar 0) (tCons (tVar 1) (tCons (tVar 2) tNil))))) tNext) R.beat.ok rfl R.beat.at_ rfl rfl scRefuses.nd rfl rfl
            (fun E pn' xe hx => pss_cons (ps_expr (pe_calS AS hr hx (pa_cons (pv 0) (pa_cons (pv 1) (pa_cons (pv 2) pa_nil))))) pss_nil)
            ?hh)
      (pss_one (ps_ret (pv 3)))), ?_⟩
    case hh => exact fun pn' p' => pss_one (ps_set (i := 3) scRefuses.nd rfl (Or.inl rfl) (pe_calW RF ⟨h1.dp, h1.un⟩ passN (pa_cons (pv 4) pa_nil)))
    refine ⟨fun σ' C' _ H' => σ' = [some (.int d), some (.ref p), some x, some (.bl false), none] ∧ C' = .ref CE ∧ H' = H, ⟨?_, ?_⟩⟩
    · exact ⟨_, rfl, _, rfl, _, rfl, L, p, n, ts, d, x, o, rfl, hd, N, wh, hw, rfl, rfl, rfl⟩
    · rintro σ' C' H4 ⟨rfl, rfl, rfl⟩
      refine ⟨R.sb, ⟨_, rfl⟩, fun px hpx => ?_⟩
      have s5 := same_new (o := excO px (.ref CE)) hpx
      exact ⟨_, rfl, px, rfl, upd_same, fun H6 s6 => ⟨_, rfl, k H6 (s5.trans s6)⟩⟩
theorem scEmptied : FnScope ["_law_net_here", "_law_house", "_law_home", "_law_kept"] ["_law_net_here", "_law_house", "_law_home"] (defScope sEmptied) := ⟨rfl, rfl, rfl, by decide +kernel, rfl, by decide +kernel, by decide +kernel⟩
def spEmptied (C : Addr) : Sp := fun vs H Q _ => ∃ (L : Addr → Prop) (p : Addr) (n : Nat) (ts : Ts) (i j : Nat), vs = [.ref p, .int i, .int j] ∧ i < n ∧ j < n ∧ NetAt C H L p n ts ∧ ∀ H', Same H H' → Q (.bl true) H'
theorem elEq_one {X : Cx} {H : Hp} {i : Int} : ElEq X H (fun _ _ => true) (.int i) (.int i) := by
  intro pins s σ A u v I hu rx ry
  have h := elEq_flat (X := X) (H := H) (x := .int i) (y := .int i) rfl rfl pins s σ A u v I hu rx ry
  rw [show eqV (.int i) (.int i) = true by show decide (i = i) = true; simp] at h
  exact h
theorem ok_emptied {f C CE : Addr} {fd : FuncData} (F : Fun K "_law_emptied" "_law_emptied" sEmptied f fd) (T : NT K mg C)
    (MO : MCal P w K mg base (CXf P w) 5 C "out" ["self", "house"] (spAsk K C CE aOut)) (MF : MCal P w K mg base (CXf P w) 5 C "far" ["self", "one", "other"] (spFar K C CE)) (MG : MCal P w K mg base (CXf P w) 6 C "good" ["self", "house", "home"] (spGood K C CE)) :
    FnOk P w K mg base CX0 7 f fd ["_law_net_here", "_law_house", "_law_home"] (spEmptied C) := by
  obtain ⟨fO, fdO, mO, bO, GO⟩ := MO.ex
  obtain ⟨fF, fdF, mF, bF, GF⟩ := MF.ex
  obtain ⟨fG, fdG, mG, bG, GG⟩ := MG.ex
  refine F.ok scEmptied (fun vs H Q E h => ?_) (fun cdv A outer s H vs Q E hr h => ?_)
  · obtain ⟨L, p, n, ts, i, j, rfl, _⟩ := h
    rfl
  · obtain ⟨L, p, n, ts, i, j, rfl, hi, hj, N, k⟩ := h
    have h5 : Room 5 _ := hr.mono (by decide)
    have hu : (A.deeper (PyProof.Rows.envOfC "_law_emptied" (defScope sEmptied) s.heap.objs.size f cdv)).units + 2 < cLine := by have := hr.un; omega
    refine ⟨_, pss_cons (ps_set (i := 3) scEmptied.nd rfl (Or.inl rfl) (pe_lst (pa_cons (pe_meth (pv 0) T.cl mO GO h5 bO .nil passN (pa_cons (pv 1) pa_nil)) (pa_cons (pe_meth (pv 0) T.cl mG GG hr bG .nil passN (pa_cons (pv 1) (pa_cons (pv 2) pa_nil))) (pa_cons (pe_meth (pv 0) T.cl mF GF h5 bF .nil passN (pa_cons (pv 1) (pa_cons (pv 2) pa_nil))) pa_nil)))))
      (pss_cons (ps_expr (pe_bm0 PySem.F.plainAttrs_list PySem.F.slot_list_clear PySem.F.type_list_clear mt_clear (pe_meth (pv 0) T.cl mO GO h5 bO .nil passN (pa_cons (pv 1) pa_nil))))
      (pss_cons (ps_expr (pe_bm PySem.F.plainAttrs_list PySem.F.slot_list_append PySem.F.type_list_append mt_append (pe_meth (pv 0) T.cl mG GG hr bG .nil passN (pa_cons (pv 1) (pa_cons (pv 2) pa_nil))) (pa_cons pe_int pa_nil)))
      (pss_one (ps_ret (pe_cmpR (op_eqL (e := fun _ _ => true) hu) (pe_lst (pa_cons (pe_meth (pv 0) T.cl mO GO h5 bO .nil passN (pa_cons (pv 1) pa_nil)) (pa_cons (pe_meth (pv 0) T.cl mG GG hr bG .nil passN (pa_cons (pv 1) (pa_cons (pv 2) pa_nil))) (pa_cons (pe_meth (pv 0) T.cl mF GF h5 bF .nil passN (pa_cons (pv 1) (pa_cons (pv 2) pa_nil))) pa_nil)))) (pv 3) (nomark _)))))), ?_⟩
    have O : ∀ (H1 : Hp) (z : Option V) (k : VK), Same H H1 → (∀ r H2, Same H1 H2 → H1 r = none → H2 r = some (.lst (NV (outN n ts i))) → k (.ref r) H2) → tMeth C "out" (spAsk K C CE aOut) [] E0 (tVar 0) (tCons (tVar 1) tNil) [some (.ref p), some (.int i), some (.int j), z] H1 k := by
      intro H1 z k s1 h
      have N1 := N.same s1
      obtain ⟨dx, tl, ol, ds, e1, _⟩ := N1.ob
      refine ⟨_, rfl, p, dx, _, rfl, e1, nout _ _ _ _, _, rfl, L, p, n, ts, _, some (i : Int), rfl, N1, .int _, fun z => absurd z (by rw [within_of hi]; decide), fun i' hi' ei => ?_⟩
      obtain rfl : i = i' := Int.ofNat.inj (Option.some.inj ei)
      exact h
    have G : ∀ (H1 : Hp) (z : Option V) (k : VK), Same H H1 → (∀ r H2, Same H1 H2 → H1 r = none → H2 r = some (.lst (NV (goodN n ts i j))) → k (.ref r) H2) → tMeth C "good" (spGood K C CE) [] E0 (tVar 0) (tCons (tVar 1) (tCons (tVar 2) tNil)) [some (.ref p), some (.int i), some (.int j), z] H1 k := by
      intro H1 z k s1 h
      have N1 := N.same s1
      obtain ⟨dx, tl, ol, ds, e1, _⟩ := N1.ob
      refine ⟨_, rfl, p, dx, _, rfl, e1, ngood _ _ _ _, _, rfl, _, rfl, L, p, n, ts, _, some (i : Int), _, some (j : Int), rfl, N1, .int _, .int _, fun z => ?_, fun i1 j1 h1' h2' e1' e2' => ?_⟩
      · rw [within_of hi, within_of hj] at z
        rcases z with z | z <;> cases z
      · obtain rfl : i = i1 := Int.ofNat.inj (Option.some.inj e1')
        obtain rfl : j = j1 := Int.ofNat.inj (Option.some.inj e2')
        exact h
    have Fa : ∀ (H1 : Hp) (z : Option V) (k : VK), Same H H1 → k (.int (far ts i j : Nat)) H1 → tMeth C "far" (spFar K C CE) [] E0 (tVar 0) (tCons (tVar 1) (tCons (tVar 2) tNil)) [some (.ref p), some (.int i), some (.int j), z] H1 k := by
      intro H1 z k s1 h
      have N1 := N.same s1
      obtain ⟨dx, tl, ol, ds, e1, _⟩ := N1.ob
      refine ⟨_, rfl, p, dx, _, rfl, e1, nfar _ _ _ _, _, rfl, _, rfl, L, p, n, ts, _, some (i : Int), _, some (j : Int), rfl, N1, .int _, .int _, fun z => ?_, fun i1 j1 h1' h2' e1' e2' => ?_⟩
      · rw [within_of hi, within_of hj] at z
        rcases z with z | z <;> cases z
      · obtain rfl : i = i1 := Int.ofNat.inj (Option.some.inj e1')
        obtain rfl : j = j1 := Int.ofNat.inj (Option.some.inj e2')
        exact h
    have gl : (NV (goodN n ts i j)).length < sizeLine := by
      rw [nv_len]
      have n2 := N.fine.n2
      have hol : (goodN n ts i j).length ≤ 32 := Nat.le_trans (List.length_filter_le _ _) (Nat.le_trans (List.length_filter_le _ _) (by simp; exact n2))
      exact Nat.lt_of_le_of_lt hol (by decide)
    refine O _ _ _ (Same.refl _) fun r1 H1 s1 n1 g1 => G _ _ _ s1 fun r2 H2 s2 n2 g2 => Fa _ _ _ (s1.trans s2) ⟨by show 3 ≤ sizeLine; decide, fun D hD => ?_⟩
    have s3 := same_new (o := .lst [.ref r1, .ref r2, .int (far ts i j : Nat)]) hD
    have s03 := (s1.trans s2).trans s3
    refine O _ _ _ s03 fun r3 H4 s4 n4 g4 => ⟨.inl ⟨rfl, _, SqL.of g4⟩, r3, _, rfl, rfl, g4, ?_⟩
    have s5 : Same (upd H2 D (.lst [.ref r1, .ref r2, .int (far ts i j : Nat)])) (upd H4 r3 (.lst [])) := same_put s4 n4
    refine G _ _ _ (s03.trans s5) fun r4 H6 s6 n6 g6 => ⟨.inl ⟨rfl, _, SqL.of g6⟩, r4, _, _, rfl, rfl, g6, gl, ?_⟩
    have s7 := same_put (o := .lst (NV (goodN n ts i j) ++ [.int 0])) s6 n6
    have s37 := s5.trans s7
    refine O _ _ _ (s03.trans s37) fun r5 H8 s8 n8 g8 => G _ _ _ ((s03.trans s37).trans s8) fun r6 H9 s9 n9 g9 => Fa _ _ _ (((s03.trans s37).trans s8).trans s9) ⟨by show 3 ≤ sizeLine; decide, fun D2 hD2 => ?_⟩
    have s10 := same_new (o := .lst [.ref r5, .ref r6, .int (far ts i j : Nat)]) hD2
    have a1 := ((s2.trans s3).trans s37) _ _ g1
    have a2 := (s3.trans s37) _ _ g2
    have a3 := s37 _ _ (upd_same (H := H2) (a := D) (o := .lst [.ref r1, .ref r2, .int (far ts i j : Nat)]))
    refine ⟨_, rfl, D2, D, _, _, rfl, rfl, SqL.of upd_same, SqL.of (((s8.trans s9).trans s10) _ _ a3), fun e h1 h2 => ?_, ?_⟩
    · have h1' : e < 3 := h1
      have : e = 0 ∨ e = 1 ∨ e = 2 := by omega
      rcases this with rfl | rfl | rfl
      · exact elEq_list (SqL.of ((s9.trans s10) _ _ g8)) (SqL.of (((s8.trans s9).trans s10) _ _ a1)) (ne_of_none a1 n8).symm nv_flat nv_flat allEq_self.symm
      · exact elEq_list (SqL.of (s10 _ _ g9)) (SqL.of (((s8.trans s9).trans s10) _ _ a2)) (ne_of_none (s8 _ _ a2) n9).symm nv_flat nv_flat allEq_self.symm
      · exact elEq_one
    · exact k _ (((((s03.trans s37).trans s8).trans s9).trans s10))
end
end K12
namespace L2
open PySem PySem.Spec PyProof.Rows
def tDct : TE := fun _ H Q => ∀ p, H p = none → Q (.ref p) (upd H p (.dK []))
theorem pe_dct {X : Cx} {pos : Pos} : PE X (.Dict [] [] pos) tDct := by
  intro pins s σ H Q I h
  have hs : sysModules < s.heap.objs.size := Nat.lt_trans (by decide : sysModules < mainGlobals) (I.mod.glob.keeps I.bk).lt
  refine wpAny_Dict_empty ⟨.ref s.heap.objs.size, upd H s.heap.objs.size (.dK []), ?_, rfl, h _ (I.hok.fresh (Nat.le_refl _))⟩
  refine I.laidN (t' := s.toks) (fun _ _ q => Heap.get?_push_of_some _ q) (Heap.get?_none_of_le (Nat.le_refl _)) ⟨Nat.zero_le _, ?_, [], .nil, Heap.DictOf.new _⟩
  rw [beq_eq_false_iff_ne]
  exact Nat.ne_of_gt hs
end L2
namespace K12
open PySem L2 NetM
abbrev sLaw : Stmt := top 48
theorem nbDNT : (["_law_deed", "_law_net_here", "_law_thing"] : List Str).Nodup := by decide +kernel
def Fx (D : Addr → Prop) (H H' : Hp) : Prop := ∀ b o, H b = some o → ¬ D b → H' b = some o
theorem Fx.of {D : Addr → Prop} {H H' : Hp} (s : Same H H') : Fx D H H' := fun b o e _ => s b o e
theorem Fx.trans {D : Addr → Prop} {H H1 H2 : Hp} (a : Fx D H H1) (b : Fx D H1 H2) : Fx D H H2 := fun c o h n => b c o (a c o h n) n
theorem Fx.ofE {D : Addr → Prop} {p : Addr} {H H' : Hp} (s : SameE p H H') (h : D p) : Fx D H H' := fun b o e n => s b o e (fun z => n (z ▸ h))
theorem Fx.upd {D : Addr → Prop} {a : Addr} {H : Hp} {o : HO} (h : D a) : Fx D H (upd H a o) := fun b u e n => by rw [upd_ne (by rintro rfl; exact n h)]; exact e
theorem Fx.not {D : Addr → Prop} {H : Hp} {b : Addr} {o : HO} (e : H b = some o) (h : ∀ b, D b → ∃ xs, H b = some (.lst xs)) (n : ∀ xs, o ≠ .lst xs) : ¬ D b := fun z => by
  obtain ⟨xs, e'⟩ := h b z
  rw [e] at e'
  exact n xs (Option.some.inj e')
theorem Fx.tab {D : Addr → Prop} {H H' : Hp} {Pt : Addr} (f : Fx D H H') (t : Tab Pt H) (h : ∀ b, D b → ∃ xs, H b = some (.lst xs)) : Tab Pt H' := by
  rcases t with z | ⟨c, z, y⟩
  · exact .inl (f _ _ z (Fx.not z h (by intro xs q; cases q)))
  · exact .inr ⟨c, f _ _ z (Fx.not z h (by intro xs q; cases q)), f _ _ y (Fx.not y h (by intro xs q; cases q))⟩
theorem Fx.net {D : Addr → Prop} {H H' : Hp} {C p : Addr} {L : Addr → Prop} {n : Nat} {ts : Ts} (f : Fx D H H') (N : NetAt C H L p n ts) (h : ∀ b, D b → ¬ L b) (hp : ¬ D p) : NetAt C H' L p n ts :=
  N.keep (fun b o l e => f b o e fun z => h b z l) fun o e => f _ _ e hp
theorem Fx.ties {D : Addr → Prop} {H H' : Hp} {l n : Nat} {zs : Zs} (f : Fx D H H') (T : TiesAt H l n zs) (hl : ¬ D l) (h : ∀ z ∈ zs, ¬ D z.1) : TiesAt H' l n zs :=
  ⟨T.fine, f _ _ T.at_ hl, fun z hz => f _ _ (T.po z hz) (h z hz)⟩
section
variable {P : Program} {w : World} {K : PySem.W.Frag} {mg : Str → Option Value} {base : Heap}
def SqF (K : PySem.W.Frag) (H : Hp) (a : Addr) (xs : List V) : Prop := (∃ o, H a = some (.frz o (.lst xs))) ∨ (∀ H' : Hp, SqL K H' a xs)
theorem SqF.seq {H : Hp} {a : Addr} {xs : List V} (h : SqF K H a xs) : SqL K H a xs := by
  rcases h with ⟨o, h⟩ | h
  · exact .inl (.inr ⟨o, h⟩)
  · exact h H
theorem SqF.mono {H H' : Hp} {a : Addr} {xs : List V} (h : SqF K H a xs) (e : ∀ o u, H a = some (.frz o u) → H' a = some (.frz o u)) : SqF K H' a xs := by
  rcases h with ⟨o, h⟩ | h
  · exact .inl ⟨o, e _ _ h⟩
  · exact .inr h
theorem TyX.same' {H H' : Hp} {x : V} {t : Value} (e : Same H H') (h : TyX K H x t) : TyX K H' x t := by
  cases h with
  | exc T q => exact .exc T (e _ _ q)
  | of h =>
    refine .of ?_
    cases h with
    | non => exact .non
    | bl b => exact .bl b
    | int i => exact .int i
    | str z => exact .str z
    | flt z => exact .flt z
    | lst q => exact .lst (e _ _ q)
    | frz q => exact .frz (e _ _ q)
    | tup q => exact .tup (e _ _ q)
    | dK q => exact .dK (e _ _ q)
    | dT q => exact .dT (e _ _ q)
    | ins q a b c d m => exact .ins (e _ _ q) a b c d m
theorem Wh.same {H H' : Hp} {x : V} {o : Option Int} (e : Same H H') (h : Wh K H x o) : Wh K H' x o := by
  cases h with
  | int i => exact .int i
  | no h =>
    obtain ⟨t, ty, q⟩ := h
    exact .no ⟨t, TyX.same' e ty, q⟩
def Held (C S Pt : Addr) (H : Hp) (v : V) : Prop := ∃ (t : Addr) (L : Addr → Prop) (pn : Addr) (n : Nat) (l : Addr) (zs : Zs), v = .ref t ∧ H t = some (.tup [.ref pn, .int n, .ref l]) ∧ NetAt C H L pn n (zp zs) ∧ TiesAt H l n zs ∧ ¬ L S ∧ ¬ L Pt ∧ l ≠ S
theorem Held.keep {C S Pt : Addr} {H H' : Hp} {v : V} {xs : List V} (h : Held C S Pt H v) (f : Fx (fun b => b = Pt ∨ b = S) H H') (tb : Tab Pt H) (hS : H S = some (.lst xs)) : Held C S Pt H' v := by
  obtain ⟨t, L, pn, n, l, zs, rfl, e, N, T, l1, l2, l3⟩ := h
  have tup : ∀ {b : Addr} {ys : List V}, H b = some (.tup ys) → ¬ (b = Pt ∨ b = S) := fun e z => z.elim (tb.not e (by intro ps q; cases q)) (ne_of e hS (by intro q; cases q))
  refine ⟨t, L, pn, n, l, zs, rfl, f _ _ e (tup e), f.net N ?_ ?_, f.ties T ?_ ?_, l1, l2, l3⟩
  · rintro b (rfl | rfl)
    · exact l2
    · exact l1
  · obtain ⟨dx, tl, ol, ds, e1, _⟩ := N.ob
    exact fun z => z.elim (tb.not e1 (by intro ps q; cases q)) (ne_of e1 hS (by intro q; cases q))
  · exact fun z => z.elim (tb.not T.at_ (by intro ps q; cases q)) l3
  · exact fun z hz => tup (T.po z hz)
def things (n : Int) (t l d : Addr) : List V := [.int (-1), .int n, .non, .bl true, .bl false, .str "0", .ref t, .ref l, .int (10 ^ 50), .int (-n), .ref d, .str ""]
theorem no_th {H : Hp} {x : V} {t : Value} {n : Nat} (ty : TyX K H x t) (h : PySem.W.kitOne K t (.type "int") = some false ∨ (PySem.W.kitOne K t (.type "int") = some true ∧ PySem.W.kitOne K t (.type "bool") = some true)) : ∃ o, Wh K H x o ∧ within o 0 ((n : Int) - 1) = false := ⟨none, .no ⟨t, ty, h⟩, rfl⟩
theorem int_th {H : Hp} {i : Int} {n : Nat} (h : i < 0 ∨ (n : Int) ≤ i) : ∃ o, Wh K H (.int i) o ∧ within o 0 ((n : Int) - 1) = false := by
  refine ⟨some i, .int i, ?_⟩
  unfold within
  simp only [Bool.and_eq_false_iff, decide_eq_false_iff_not]
  omega
theorem things_th {H : Hp} {t l d : Addr} {n : Nat} (n1 : 2 ≤ n) (n2 : n ≤ 32) (ht : H t = some (.tup [.int 0])) (hl : H l = some (.lst [.int 0])) (hd : H d = some (.dK [])) : ∀ j, j < 12 → ∃ v, (things n t l d)[j]? = some v ∧ ∃ o, Wh K H v o ∧ within o 0 ((n : Int) - 1) = false
  | 0, _ => ⟨_, rfl, int_th (.inl (by decide))⟩
  | 1, _ => ⟨_, rfl, int_th (.inr (by omega))⟩
  | 2, _ => ⟨_, rfl, no_th (.of .non) (.inl (by kernel_rfl))⟩
  | 3, _ => ⟨_, rfl, no_th (.of (.bl _)) (.inr ⟨by kernel_rfl, by kernel_rfl⟩)⟩
  | 4, _ => ⟨_, rfl, no_th (.of (.bl _)) (.inr ⟨by kernel_rfl, by kernel_rfl⟩)⟩
  | 5, _ => ⟨_, rfl, no_th (.of (.str _)) (.inl (by kernel_rfl))⟩
  | 6, _ => ⟨_, rfl, no_th (.of (.tup ht)) (.inl (by kernel_rfl))⟩
  | 7, _ => ⟨_, rfl, no_th (.of (.lst hl)) (.inl (by kernel_rfl))⟩
  | 8, _ => ⟨_, rfl, int_th (.inr (by omega))⟩
  | 9, _ => ⟨_, rfl, int_th (.inl (by omega))⟩
  | 10, _ => ⟨_, rfl, no_th (.of (.dK hd)) (.inl (by kernel_rfl))⟩
  | 11, _ => ⟨_, rfl, no_th (.of (.str _)) (.inl (by kernel_rfl))⟩
  | n + 12, h => absurd h (by omega)
theorem scLaw : FnScope ["_law_script", "_law_seen", "_law_k", "_law_pot_here", "_law_pick", "_law_many", "_law_ties", "_law_kept", "_law_net_here", "_law_house", "_law_home", "_law_thing"] ["_law_script"] (defScope sLaw) := ⟨rfl, rfl, rfl, by decide +kernel, rfl, by decide +kernel, by decide +kernel⟩
def spLaw (K : PySem.W.Frag) (Pt : Addr) : Sp := fun vs H Q _ => ∃ (a : Addr) (ns : List Int), vs = [.ref a] ∧ SqF K H a (ns.map V.int) ∧ ns.length ≤ 63 ∧ Tab Pt H ∧ ∀ H', Q (.bl true) H'
theorem ok_law {f C Pt fI : Addr} {fd fdI : FuncData} (F : Fun K "law" "law" sLaw f fd) (B : Bl mg) (T : NT K mg C) (PO' : Cal P w K mg base CX0 1 "_law_pot" ["_law_script", "_law_k"] (spPot K)) (D : Cal P w K mg base CX0 1 "_law_digit" ["_law_pot_here", "_law_many"] spDigit)
    (M : Mk K C fI) (bI : Binds K fdI ["self", "many", "ties"] []) (GI : FnOk P w K mg base CX0 7 fI fdI ["self", "many", "ties"] (spInit C Pt))
    (NE : Cal P w K mg base CX0 4 "_law_net" ["_law_pot_here"] spNet) (TE' : Cal P w K mg base CX0 7 "_law_tells" ["_law_net_here", "_law_many", "_law_ties"] (spTells C)) (EM : Cal P w K mg base CX0 7 "_law_emptied" ["_law_net_here", "_law_house", "_law_home"] (spEmptied C)) (RF : Cal P w K mg base CX0 8 "_law_refuses" ["_law_deed", "_law_net_here", "_law_thing"] (spRefuses K C)) :
    FnOk P w K mg base CX0 9 f fd ["_law_script"] (spLaw K Pt) := by
  refine F.ok scLaw (fun vs H Q E h => ?_) (fun cdv A outer s H vs Q E hr h => ?_)
  · obtain ⟨a, ns, rfl, _⟩ := h
    rfl
  · obtain ⟨a, ns, rfl, hS, hns, tb, q⟩ := h
    have h1 : Room 1 _ := hr.mono (by decide)
    have h4 : Room 4 _ := hr.mono (by decide)
    have h7 : Room 7 _ := hr.mono (by decide)
    refine' ⟨_, pss_cons (ps_set (i := 1) scLaw.nd rfl (Or.inl rfl) (pe_lst pa_nil))
      (pss_cons (ps_for PassesOwn.never rfl (pi_range1 rfl B.range (pa_cons (pe_callB (call_max2 rfl) (by rfl) B.max PyProof.Rows.boot_max (pa_cons pe_int (pa_cons (pe_callB (call_min2 rfl) (by rfl) B.min PyProof.Rows.boot_min (pa_cons pe_int (pa_cons (pe_callB call_len_seq (by rfl) B.len PySem.boot_len (pa_cons (pv 0) pa_nil)) pa_nil))) pa_nil))) pa_nil)) (pg_name (i := 2) scLaw.nd rfl (Or.inl rfl))
        (pss_cons (ps_set (i := 3) scLaw.nd rfl (Or.inl rfl) (pe_cal PO' h1 pass0 (pa_cons (pv 0) (pa_cons (pv 2) pa_nil))))
        (pss_cons (ps_set (i := 4) scLaw.nd rfl (Or.inl rfl) (pe_cal D h1 pass0 (pa_cons (pv 3) (pa_cons pe_int pa_nil))))
        (pss_cons (ps_asg (pe_cal NE h4 pass0 (pa_cons (pv 3) pa_nil)) (pg_tup (n := 2) rfl (pgs_cons (pg_name (i := 5) scLaw.nd rfl (Or.inl rfl)) (pgs_cons (pg_name (i := 6) scLaw.nd rfl (Or.inl rfl)) pgs_nil))))
        (pss_cons (ps_set (i := 7) scLaw.nd rfl (Or.inl rfl) (pe_callTy call_list_of (by rfl) B.lst PyProof.Rows.boot_list (pa_cons (pv 6) pa_nil)))
        (pss_cons (ps_set (i := 8) scLaw.nd rfl (Or.inr rfl) (pe_make M GI hr rfl T.mgC bI .nil pass0 (pa_cons (pv 5) (pa_cons (pv 6) pa_nil))))
        (pss_cons (ps_expr (pe_bm0 PySem.F.plainAttrs_list PySem.F.slot_list_clear PySem.F.type_list_clear mt_clear (pv 6)))
        (pss_cons (ps_par (i := 9) (j := 10) rfl scLaw.nd rfl rfl (by decide) rfl rfl (pa_cons (pe_cal D h1 pass0 (pa_cons (pv 3) (pa_cons (pv 5) pa_nil))) (pa_cons (pe_cal D h1 pass0 (pa_cons (pv 3) (pa_cons (pv 5) pa_nil))) pa_nil)) (by rfl))
        (pss_cons (ps_expr (pe_bm PySem.F.plainAttrs_list PySem.F.slot_list_append PySem.F.type_list_append mt_append (pv 1) (pa_cons (pe_tup (pa_cons (pv 8) (pa_cons (pv 5) (pa_cons (pv 7) pa_nil)))) pa_nil)))
        (pss_cons (ps_if (PW.pt (pw_or (pt_not (pt_val (pe_cal TE' h7 pass0 (pa_cons (pv 8) (pa_cons (pv 5) (pa_cons (pv 7) pa_nil)))))) (pw_or1 (pt_not (pt_val (pe_cal EM h7 pass0 (pa_cons (pv 8) (pa_cons (pv 9) (pa_cons (pv 10) pa_nil))))))))) pss_never pss_nil)
        (pss_cons (ps_set (i := 11) scLaw.nd rfl (Or.inr rfl) (pe_ix ix_list (pe_lst (pa_cons (pe_un un_neg pe_int) (pa_cons (pv 5) (pa_cons pe_non (pa_cons pe_bl (pa_cons pe_bl (pa_cons pe_str (pa_cons (pe_tup (pa_cons pe_int pa_nil)) (pa_cons (pe_lst (pa_cons pe_int pa_nil)) (pa_cons (pe_op op_pow pe_int pe_int) (pa_cons (pe_un un_neg (pv 5)) (pa_cons pe_dct (pa_cons pe_str pa_nil))))))))))))) (pv 4) (fun _ _ => rfl)))
        (pss_one (ps_if (PW.pt (pw_or (pt_not (pt_val (pe_callB (call_allB rfl) (by rfl) B.all PyProof.Rows.boot_all (pa_cons ?c pa_nil)))) (pw_or1 (pt_not (pt_val (pe_cal TE' h7 pass0 (pa_cons (pv 8) (pa_cons (pv 5) (pa_cons (pv 7) pa_nil))))))))) pss_never pss_nil)))))))))))))
      (pss_cons (ps_asg (pe_ix ix_list (pv 1) pe_int (fun _ _ => rfl)) (pg_tup (n := 3) rfl (pgs_cons (pg_name (i := 8) scLaw.nd rfl (Or.inr rfl)) (pgs_cons (pg_name (i := 5) scLaw.nd rfl (Or.inl rfl)) (pgs_cons (pg_name (i := 7) scLaw.nd rfl (Or.inl rfl)) pgs_nil)))))
      (pss_one (ps_ret (pe_cal TE' h7 pass0 (pa_cons (pv 8) (pa_cons (pv 5) (pa_cons (pv 7) pa_nil)))))))), ?_⟩
    case c =>
      refine' pe_comp (g := gName 0) (te := tCall (spRefuses K C) [] E0 (tCons (tVar 0) (tCons (tVar 1) (tCons (tVar 2) tNil)))) (NB := ["_law_deed", "_law_net_here", "_law_thing"]) (src := [none, some 8, some 11]) (blk_of (by kernel_rfl)) rfl (pi_range1 rfl B.range (pa_cons pe_int pa_nil)) ?g ?t ?e
      case g => exact fun cl C s₃ H₃ fp => pg_name (i := 0) nbDNT rfl (Or.inl rfl) (Or.inr rfl)
      case t => exact fun cl C s₃ H₃ fp => pts_nil
      case e => exact fun cl C s₃ H₃ fp => pe_cal RF (hr.mono (by decide)) pass0 (pa_cons (pv 0) (pa_cons (pv 1) (pa_cons (pv 2) pa_nil)))
    refine ⟨by show 0 ≤ sizeLine; decide, fun S hS0 => ?_⟩
    have s0 := same_new (o := .lst []) hS0
    have hSq : SqF K (upd H S (.lst [])) a (ns.map V.int) := hS.mono fun o u z => s0 _ _ z
    refine ⟨_, rfl, a, _, rfl, .inl hSq.seq, 2, _, rfl, 1, _, rfl, _, rfl, ?_⟩
    obtain ⟨j, hj, j1⟩ : ∃ j : Int, (if (if (((ns.map V.int).length : Nat) : Int) < 2 then (((ns.map V.int).length : Nat) : Int) else 2) > 1 then (if (((ns.map V.int).length : Nat) : Int) < 2 then (((ns.map V.int).length : Nat) : Int) else 2) else 1) = j ∧ 1 ≤ j ∧ j ≤ 2 := ⟨_, rfl, by split <;> split <;> omega⟩
    rw [hj]
    refine ⟨by omega, by omega, for_range (n := j.toNat) (lo := 0) (fun k σ H2 => (∃ x2 x3 x4 x5 x6 x7 x8 x9 x10 x11, σ = [some (.ref a), some (.ref S), x2, x3, x4, x5, x6, x7, x8, x9, x10, x11]) ∧ SqF K H2 a (ns.map V.int) ∧ Tab Pt H2 ∧ ∃ xs : List V, H2 S = some (.lst xs) ∧ xs.length = k ∧ ∀ v, xs.head? = some v → Held C S Pt H2 v) ⟨⟨_, _, _, _, _, _, _, _, _, _, rfl⟩, hSq, tb.same s0, [], upd_same, rfl, fun v e => nomatch e⟩ ?_ ?_⟩
    · rintro k σ H2 hk ⟨⟨x2, x3, x4, x5, x6, x7, x8, x9, x10, x11, rfl⟩, S2, t2, xs, hS2, hlen, hd⟩
      refine ⟨_, rfl, _, rfl, a, ns, k, by rw [Int.zero_add]; rfl, S2.seq, by omega, fun p H3 s3 np p3 => ?_⟩
      refine ⟨_, rfl, p, 12, rfl, by decide, by decide, p3, fun pick H4 hpick s4 p4 => ?_⟩
      refine ⟨_, rfl, p, rfl, p4, fun t r n zs H5 s5 p5 ht5 TL hr5 => ⟨t, _, rfl, SqT.of ht5, rfl, _, _, rfl, _, _, rfl, rfl, ?_⟩⟩
      have hnS : S ≠ p := ne_of_none hS2 np
      have F5 : ∀ b o, H2 b = some o → H5 b = some o := fun b o e => by
        have nb : b ≠ p := ne_of_none e np
        exact s5 _ _ (s4 _ _ (s3 _ _ e) nb) nb
      have hr2 : H2 r = none := by
        cases z : H2 r with
        | none => rfl
        | some o =>
          have nb : r ≠ p := ne_of_none z np
          rw [s4 _ _ (s3 _ _ z) nb] at hr5; cases hr5
      have n1 := TL.t.fine.n1
      have n2 := TL.t.fine.n2
      have t5 : Tab Pt H5 := t2.same F5
      refine ⟨_, rfl, r, _, rfl, .inl (SqL.of TL.t.at_), fun l6 hl6 => ?_⟩
      have s6 := same_new (o := .lst (zr zs)) hl6
      refine ⟨_, rfl, _, rfl, fun px dx nx ndx nex => ?_⟩
      have sN : Same (upd H5 l6 (.lst (zr zs))) (upd (upd (upd H5 l6 (.lst (zr zs))) dx (.own px)) px (.ins C dx [])) := (same_new (o := .own px) ndx).trans (same_new (D := px) (o := .ins C dx []) (by rw [upd_ne nex.symm]; exact nx))
      have sM : Same H5 (upd (upd (upd H5 l6 (.lst (zr zs))) dx (.own px)) px (.ins C dx [])) := s6.trans sN
      have gpx : (upd (upd (upd H5 l6 (.lst (zr zs))) dx (.own px)) px (.ins C dx [])) px = some (.ins C dx []) := upd_same
      have gl6 := sN _ _ (upd_same (H := H5) (a := l6) (o := .lst (zr zs)))
      have npx5 : H5 px = none := by
        cases z : H5 px with
        | none => rfl
        | some o => rw [s6 _ _ z] at nx; cases nx
      generalize upd (upd (upd H5 l6 (.lst (zr zs))) dx (.own px)) px (.ins C dx []) = HM at *
      have tM := t5.same sM
      have TM : TiesAt HM r n zs := TL.t.same sM
      have TM6 : TiesAt HM l6 n zs := ⟨TM.fine, gl6, TM.po⟩
      refine ⟨px, dx, n, r, zs, rfl, gpx, TM, tM, fun H7 N7 t7 s7 => ⟨rfl, ?_⟩⟩
      have up7 : ∀ b o, H5 b = some o → b ≠ Pt → H7 b = some o := fun b o e h => s7 _ _ (sM _ _ e) (ne_of_none e npx5) h
      have lst5 : ∀ {b : Addr} {ys : List V}, H5 b = some (.lst ys) → H7 b = some (.lst ys) := fun e => up7 _ _ e (t5.not e (by intro ps q; cases q))
      have hr7 := lst5 TL.t.at_
      have hS5 := F5 _ _ hS2
      have hS7 := lst5 hS5
      have p7 : PotAt H7 p := by
        obtain ⟨a1, b1', e, r⟩ := p5
        exact ⟨a1, b1', lst5 e, r⟩
      have T7 : TiesAt H7 l6 n zs := TM6.mono s7 gpx tM
      have nl6r : l6 ≠ r := (ne_of_none TL.t.at_ hl6).symm
      have nl6p : l6 ≠ p := (p5.ne hl6)
      have nl6S : l6 ≠ S := (ne_of_none hS5 hl6).symm
      have nrS : r ≠ S := by rintro rfl; rw [hS2] at hr2; cases hr2
      refine ⟨_, rfl, .inl ⟨rfl, _, SqL.of hr7⟩, r, _, rfl, rfl, hr7, ?_⟩
      have f8 : Fx (fun b => b = p ∨ b = r ∨ b = S) H7 (upd H7 r (.lst [])) := Fx.upd (.inr (.inl rfl))
      have p8 : PotAt (upd H7 r (.lst [])) p := p7.put TL.ne.symm
      have hS8 : (upd H7 r (.lst [])) S = some (.lst xs) := by rw [upd_ne nrS.symm]; exact hS7
      generalize upd H7 r (.lst []) = H8 at *
      refine ⟨_, rfl, _, rfl, p, n, rfl, by omega, by omega, p8, fun hs H9 hhs s9 p9 => ⟨_, rfl, _, rfl, p, n, rfl, by omega, by omega, p9, fun hm H11 hhm s10 p10 => ⟨_, _, rfl, ?_⟩⟩⟩
      have f11 := (f8.trans (Fx.ofE s9 (.inl rfl))).trans (Fx.ofE s10 (.inl rfl))
      have hS11 := s10 _ _ (s9 _ _ hS8 hnS) hnS
      refine ⟨_, rfl, .inl ⟨rfl, _, SqL.of hS11⟩, _, rfl, _, rfl, _, rfl, by show 3 ≤ sizeLine; decide, fun t12 ht12 => ⟨S, _, _, rfl, rfl, same_new ht12 _ _ hS11, by rw [hlen]; exact Nat.lt_of_lt_of_le (show k < 2 by omega) (by decide), ?_⟩⟩
      have s12 := same_new (o := .tup [.ref px, .int n, .ref l6]) ht12
      have f12 := (f11.trans (Fx.of s12)).trans (Fx.upd (a := S) (o := .lst (xs ++ [.ref t12])) (.inr (.inr rfl)))
      have nt12 : t12 ≠ S := (ne_of_none hS11 ht12).symm
      have g12 : (upd (upd H11 t12 (.tup [.ref px, .int n, .ref l6])) S (.lst (xs ++ [.ref t12]))) t12 = some (.tup [.ref px, .int n, .ref l6]) := by rw [upd_ne nt12]; exact upd_same
      have hS12 : (upd (upd H11 t12 (.tup [.ref px, .int n, .ref l6])) S (.lst (xs ++ [.ref t12]))) S = some (.lst (xs ++ [.ref t12])) := upd_same
      generalize upd (upd H11 t12 (.tup [.ref px, .int n, .ref l6])) S (.lst (xs ++ [.ref t12])) = H12 at *
      have dL : ∀ b, (b = p ∨ b = r ∨ b = S) → ∃ ys, H7 b = some (.lst ys) := by
        rintro b (rfl | rfl | rfl)
        · obtain ⟨a1, b1', e, _⟩ := p7; exact ⟨_, e⟩
        · exact ⟨_, hr7⟩
        · exact ⟨_, hS7⟩
      have dM : ∀ b, (b = p ∨ b = r ∨ b = S) → ¬ HM b = none := by
        rintro b (rfl | rfl | rfl)
        · exact (p5.same sM).full
        · exact some_ne TM.at_
        · exact some_ne (sM _ _ hS5)
      have npxD : ¬ (px = p ∨ px = r ∨ px = S) := by
        obtain ⟨dx7, _, _, _, e7, _⟩ := N7.ob
        exact Fx.not e7 dL (by intro ys q; cases q)
      have N12 := f12.net N7 dM npxD
      have T12 := f12.ties T7 (by rintro (z | z | z) <;> contradiction) (fun z hz => Fx.not (T7.po z hz) dL (by intro ys q; cases q))
      have tb12 := f12.tab t7 dL
      have S12 : SqF K H12 a (ns.map V.int) := S2.mono fun o u z => f12 _ _ (up7 _ _ (F5 _ _ z) (t5.not (F5 _ _ z) (by intro ps q; cases q))) (Fx.not (up7 _ _ (F5 _ _ z) (t5.not (F5 _ _ z) (by intro ps q; cases q))) dL (by intro ys q; cases q))
      have FF : Fx (fun b => b = Pt ∨ b = S) H2 H12 := fun b o e n => f12 _ _ (up7 _ _ (F5 _ _ e) fun z => n (.inl z)) (by
        rintro (rfl | rfl | rfl)
        · rw [np] at e; cases e
        · rw [hr2] at e; cases e
        · exact n (.inr rfl))
      refine ⟨_, rfl, _, rfl, _, rfl, _, px, n, l6, zs, rfl, N12, T12, fun H14 s14 => ⟨_, rfl, iteF ?_⟩⟩
      refine ⟨_, rfl, _, rfl, _, rfl, _, px, n, _, hs, hm, rfl, hhs, hhm, N12.same s14, fun H15 s15 => ⟨_, rfl, iteF ?_⟩⟩
      have s125 := s14.trans s15
      clear s14 s15
      refine ⟨_, rfl, _, rfl, by show 1 ≤ sizeLine; decide, fun tt htt => ⟨by show 1 ≤ sizeLine; decide, fun tl htl => ⟨_, _, rfl, rfl, ⟨by decide, by decide, by decide⟩, _, rfl, _, rfl, fun td htd => ⟨by show 12 ≤ sizeLine; decide, fun tL htL => ?_⟩⟩⟩⟩
      have u1 := same_new (o := .tup [.int 0]) htt
      have u2 := same_new (o := .lst [.int 0]) htl
      have u3 := same_new (o := .dK []) htd
      have u4 := same_new (o := .lst (things n tt tl td)) htL
      have gt := u4 _ _ (u3 _ _ (u2 _ _ (upd_same (H := H15) (a := tt) (o := .tup [.int 0]))))
      have gl := u4 _ _ (u3 _ _ (upd_same (H := upd H15 tt (.tup [.int 0])) (a := tl) (o := .lst [.int 0])))
      have gd := u4 _ _ (upd_same (H := upd (upd H15 tt (.tup [.int 0])) tl (.lst [.int 0])) (a := td) (o := .dK []))
      have s156 := ((u1.trans u2).trans u3).trans u4
      obtain ⟨v, hv, o, wh, hw⟩ := things_th (K := K) n1 n2 gt gl gd pick hpick
      refine ⟨_, rfl, tL, _, _, v, rfl, rfl, SqL.of upd_same, atI_nat hv, ?_⟩
      have N16 := N12.same (s125.trans s156)
      refine ⟨6, rfl, by decide, by decide, fun D0 hD0 => ?_⟩
      refine comp_range (n := 6) (lo := 0) (fun i ys σ Hc => (∃ a, σ = [a, some (.ref px), some v]) ∧ Same (upd (upd (upd (upd H15 tt (.tup [.int 0])) tl (.lst [.int 0])) td (.dK [])) tL (.lst (things n tt tl td))) Hc ∧ Hc D0 = some (.lst ys) ∧ ys = (List.replicate i true).map V.bl) ⟨⟨_, rfl⟩, same_new hD0, upd_same, rfl⟩ ?_ ?_
      · rintro i ys σ Hc Kt Kf hi ⟨⟨a', rfl⟩, sc, hDc, rfl⟩ kt kf
        refine ⟨_, rfl, _, rfl, _, rfl, _, px, n, _, i, v, o, by rw [Int.zero_add]; rfl, hi, N16.same sc, Wh.same sc wh, hw, fun Hd sd => ?_⟩
        refine kt _ _ _ (sd _ _ hDc) (by rw [List.length_map, List.length_replicate]; exact Nat.lt_of_lt_of_le hi (by decide)) ⟨⟨_, rfl⟩, same_put (sc.trans sd) hD0, upd_same, ?_⟩
        rw [List.replicate_succ', List.map_append]; rfl
      · rintro ys σ Hc ⟨_, sc, hDc, rfl⟩
        refine ⟨D0, List.replicate 6 true, rfl, SqL.of hDc, _, rfl, iteF ?_⟩
        have s12c := (s125.trans s156).trans sc
        refine ⟨_, rfl, _, rfl, _, rfl, _, px, n, l6, zs, rfl, N12.same s12c, T12.same s12c, fun Hz sz => ⟨_, rfl, iteF ?_⟩⟩
        have sZ := s12c.trans sz
        refine ⟨⟨_, _, _, _, _, _, _, _, _, _, rfl⟩, S12.mono fun o u z => sZ _ _ z, tb12.same sZ, _, sZ _ _ hS12, by rw [List.length_append, hlen]; rfl, fun v' e => ?_⟩
        cases xs with
        | nil =>
          obtain rfl := Option.some.inj e
          exact ⟨t12, _, px, n, l6, zs, rfl, sZ _ _ g12, N12.same sZ, T12.same sZ, dM _ (.inr (.inr rfl)), tM.full, nl6S⟩
        | cons y ys =>
          exact Held.keep (hd v' e) (FF.trans (Fx.of sZ)) t2 hS2
    · rintro σ H2 ⟨⟨x2, x3, x4, x5, x6, x7, x8, x9, x10, x11, rfl⟩, S2, t2, xs, hS2, hlen, hd⟩
      cases xs with
      | nil => have : (0 : Nat) = j.toNat := hlen; omega
      | cons y ys =>
        obtain ⟨t, L, pn, n, l, zs, rfl, e, N, T, _⟩ := hd _ rfl
        refine ⟨_, rfl, S, _, _, _, rfl, rfl, SqL.of hS2, atI_nat (xs := V.ref t :: ys) (j := 0) (v := .ref t) rfl, t, _, rfl, SqT.of e, rfl, _, _, rfl, _, _, rfl, _, _, rfl, rfl, ?_⟩
        exact ⟨_, rfl, _, rfl, _, rfl, L, pn, n, l, zs, rfl, N, T, fun H' _ => q H'⟩
end
end K12
namespace K12
open PySem L2
theorem all_mk {l : PySem.W.OpenLaw} {w : World} {K : PySem.W.Frag} {h : Heap} {mg : Str → Option Value} {fa : Addr} (X : K.In h) (G : h.Ns mainGlobals mg) (hfa : mg "law" = some (.ref fa))
    {C : Addr}
    {cO Pt : Addr}
    {x_BeatError x_NoHouse x_NoBerth x_NoHanding x_NoNet x_NoPlan x_NoRanks x_NoRow x_NoShape x_NoStand x_NoText x_NoTie x_TooMany : Addr}
    {f_whole f_within f_house f_row f_unl f_tie f_cties f_bal f_outs f_dist f_reach f_pot f_digit f_some f_round f_tree f_net f_leads f_fars f_lwhole f_rowIs f_tells f_asked f_refused f_refuses f_emptied f_law f_m_init f_m_check f_m_out f_m_far f_m_span f_m_good : Addr}
    {od_whole an_whole od_within an_within od_house an_house od_row an_row od_unl an_unl od_tie an_tie od_cties an_cties od_bal an_bal od_outs an_outs od_dist an_dist od_reach an_reach od_pot an_pot od_digit an_digit od_some an_some od_round an_round od_tree an_tree od_net an_net od_leads an_leads od_fars an_fars od_lwhole an_lwhole od_rowIs an_rowIs od_tells an_tells od_asked an_asked od_refused an_refused od_refuses an_refuses od_emptied an_emptied od_law an_law od_m_init an_m_init od_m_check an_m_check od_m_out an_m_out od_m_far an_m_far od_m_span an_m_span od_m_good an_m_good : Option Addr}
    {sl_whole sl_within sl_house sl_row sl_unl sl_tie sl_cties sl_bal sl_outs sl_dist sl_reach sl_pot sl_digit sl_some sl_round sl_tree sl_net sl_leads sl_fars sl_lwhole sl_rowIs sl_tells sl_asked sl_refused sl_refuses sl_emptied sl_law sl_m_init sl_m_check sl_m_out sl_m_far sl_m_span sl_m_good : Array (Option Value)}
    {oc_whole kV_whole dc_whole pm_whole ct_whole cd_whole oc_within kV_within dc_within pm_within ct_within cd_within oc_house kV_house dc_house pm_house ct_house cd_house oc_row kV_row dc_row pm_row ct_row cd_row oc_unl kV_unl dc_unl pm_unl ct_unl cd_unl oc_tie kV_tie dc_tie pm_tie ct_tie cd_tie oc_cties kV_cties dc_cties pm_cties ct_cties cd_cties oc_bal kV_bal dc_bal pm_bal ct_bal cd_bal oc_outs kV_outs dc_outs pm_outs ct_outs oc_dist kV_dist dc_dist pm_dist ct_dist cd_dist oc_reach kV_reach dc_reach pm_reach ct_reach cd_reach oc_pot kV_pot dc_pot pm_pot ct_pot cd_pot oc_digit kV_digit dc_digit pm_digit ct_digit cd_digit oc_some kV_some dc_some pm_some ct_some cd_some oc_round kV_round dc_round pm_round ct_round cd_round oc_tree kV_tree dc_tree pm_tree ct_tree cd_tree oc_net kV_net dc_net pm_net ct_net cd_net oc_leads kV_leads dc_leads pm_leads ct_leads cd_leads oc_fars kV_fars dc_fars pm_fars ct_fars cd_fars oc_lwhole kV_lwhole dc_lwhole pm_lwhole ct_lwhole cd_lwhole oc_rowIs kV_rowIs dc_rowIs pm_rowIs ct_rowIs cd_rowIs oc_tells kV_tells dc_tells pm_tells ct_tells cd_tells oc_asked kV_asked dc_asked pm_asked ct_asked cd_asked oc_refused kV_refused dc_refused pm_refused ct_refused cd_refused oc_refuses kV_refuses dc_refuses pm_refuses ct_refuses cd_refuses oc_emptied kV_emptied dc_emptied pm_emptied ct_emptied cd_emptied oc_law kV_law dc_law pm_law ct_law cd_law oc_m_init kV_m_init dc_m_init pm_m_init ct_m_init cd_m_init oc_m_check kV_m_check dc_m_check pm_m_check ct_m_check cd_m_check oc_m_out kV_m_out dc_m_out pm_m_out ct_m_out cd_m_out oc_m_far kV_m_far dc_m_far pm_m_far ct_m_far cd_m_far oc_m_span kV_m_span dc_m_span pm_m_span ct_m_span cd_m_span oc_m_good kV_m_good dc_m_good pm_m_good ct_m_good cd_m_good : Value}
    {t_FEWEST_HOUSES t_MOST_HOUSES t_MOST_TIES_OUT : Tok}
    (aC : PySem.W.nsIn K mainGlobals "Net" = some (some (.ref C)))
    (a_BeatError : PySem.W.nsIn K mainGlobals "BeatError" = some (some (.ref x_BeatError)))
    (a_NoHouse : PySem.W.nsIn K mainGlobals "NoHouse" = some (some (.ref x_NoHouse)))
    (a_NoBerth : PySem.W.nsIn K mainGlobals "NoBerth" = some (some (.ref x_NoBerth)))
    (a_NoHanding : PySem.W.nsIn K mainGlobals "NoHanding" = some (some (.ref x_NoHanding)))
    (a_NoNet : PySem.W.nsIn K mainGlobals "NoNet" = some (some (.ref x_NoNet)))
    (a_NoPlan : PySem.W.nsIn K mainGlobals "NoPlan" = some (some (.ref x_NoPlan)))
    (a_NoRanks : PySem.W.nsIn K mainGlobals "NoRanks" = some (some (.ref x_NoRanks)))
    (a_NoRow : PySem.W.nsIn K mainGlobals "NoRow" = some (some (.ref x_NoRow)))
    (a_NoShape : PySem.W.nsIn K mainGlobals "NoShape" = some (some (.ref x_NoShape)))
    (a_NoStand : PySem.W.nsIn K mainGlobals "NoStand" = some (some (.ref x_NoStand)))
    (a_NoText : PySem.W.nsIn K mainGlobals "NoText" = some (some (.ref x_NoText)))
    (a_NoTie : PySem.W.nsIn K mainGlobals "NoTie" = some (some (.ref x_NoTie)))
    (a_TooMany : PySem.W.nsIn K mainGlobals "TooMany" = some (some (.ref x_TooMany)))
    (a_whole : PySem.W.nsIn K mainGlobals "is_whole" = some (some (.ref f_whole)))
    (l_whole : K.lookup f_whole = some ⟨oc_whole, od_whole, .func (PySem.W.fnOf "is_whole" "is_whole" (defArgs sWhole) (defBody sWhole) (defScope sWhole) .none kV_whole dc_whole pm_whole an_whole cd_whole ct_whole), sl_whole⟩)
    (d_whole : PySem.W.codeIn K cd_whole "is_whole" = true)
    (k_whole : PySem.W.keepIn K (.ref f_whole) = true)
    (a_within : PySem.W.nsIn K mainGlobals "is_whole_within" = some (some (.ref f_within)))
    (l_within : K.lookup f_within = some ⟨oc_within, od_within, .func (PySem.W.fnOf "is_whole_within" "is_whole_within" (defArgs sWithin) (defBody sWithin) (defScope sWithin) .none kV_within dc_within pm_within an_within cd_within ct_within), sl_within⟩)
    (d_within : PySem.W.codeIn K cd_within "is_whole_within" = true)
    (k_within : PySem.W.keepIn K (.ref f_within) = true)
    (a_house : PySem.W.nsIn K mainGlobals "is_house" = some (some (.ref f_house)))
    (l_house : K.lookup f_house = some ⟨oc_house, od_house, .func (PySem.W.fnOf "is_house" "is_house" (defArgs sHouse) (defBody sHouse) (defScope sHouse) .none kV_house dc_house pm_house an_house cd_house ct_house), sl_house⟩)
    (d_house : PySem.W.codeIn K cd_house "is_house" = true)
    (k_house : PySem.W.keepIn K (.ref f_house) = true)
    (a_row : PySem.W.nsIn K mainGlobals "is_row" = some (some (.ref f_row)))
    (l_row : K.lookup f_row = some ⟨oc_row, od_row, .func (PySem.W.fnOf "is_row" "is_row" (defArgs sRow) (defBody sRow) (defScope sRow) .none kV_row dc_row pm_row an_row cd_row ct_row), sl_row⟩)
    (d_row : PySem.W.codeIn K cd_row "is_row" = true)
    (k_row : PySem.W.keepIn K (.ref f_row) = true)
    (a_unl : PySem.W.nsIn K mainGlobals "are_unlike_houses" = some (some (.ref f_unl)))
    (l_unl : K.lookup f_unl = some ⟨oc_unl, od_unl, .func (PySem.W.fnOf "are_unlike_houses" "are_unlike_houses" (defArgs sUnl) (defBody sUnl) (defScope sUnl) .none kV_unl dc_unl pm_unl an_unl cd_unl ct_unl), sl_unl⟩)
    (d_unl : PySem.W.codeIn K cd_unl "are_unlike_houses" = true)
    (k_unl : PySem.W.keepIn K (.ref f_unl) = true)
    (a_tie : PySem.W.nsIn K mainGlobals "is_tie" = some (some (.ref f_tie)))
    (l_tie : K.lookup f_tie = some ⟨oc_tie, od_tie, .func (PySem.W.fnOf "is_tie" "is_tie" (defArgs sTie) (defBody sTie) (defScope sTie) .none kV_tie dc_tie pm_tie an_tie cd_tie ct_tie), sl_tie⟩)
    (d_tie : PySem.W.codeIn K cd_tie "is_tie" = true)
    (k_tie : PySem.W.keepIn K (.ref f_tie) = true)
    (a_cties : PySem.W.nsIn K mainGlobals "check_ties" = some (some (.ref f_cties)))
    (l_cties : K.lookup f_cties = some ⟨oc_cties, od_cties, .func (PySem.W.fnOf "check_ties" "check_ties" (defArgs sCTies) (defBody sCTies) (defScope sCTies) .none kV_cties dc_cties pm_cties an_cties cd_cties ct_cties), sl_cties⟩)
    (d_cties : PySem.W.codeIn K cd_cties "check_ties" = true)
    (k_cties : PySem.W.keepIn K (.ref f_cties) = true)
    (a_bal : PySem.W.nsIn K mainGlobals "check_balance" = some (some (.ref f_bal)))
    (l_bal : K.lookup f_bal = some ⟨oc_bal, od_bal, .func (PySem.W.fnOf "check_balance" "check_balance" (defArgs sBal) (defBody sBal) (defScope sBal) .none kV_bal dc_bal pm_bal an_bal cd_bal ct_bal), sl_bal⟩)
    (d_bal : PySem.W.codeIn K cd_bal "check_balance" = true)
    (k_bal : PySem.W.keepIn K (.ref f_bal) = true)
    (a_outs : PySem.W.nsIn K mainGlobals "houses_out" = some (some (.ref f_outs)))
    (l_outs : K.lookup f_outs = some ⟨oc_outs, od_outs, .func (PySem.W.fnOf "houses_out" "houses_out" (defArgs sOuts) (defBody sOuts) (defScope sOuts) .none kV_outs dc_outs pm_outs an_outs (.ref cO) ct_outs), sl_outs⟩)
    (d_outs : PySem.W.codeIn K (.ref cO) "houses_out" = true)
    (k_outs : PySem.W.keepIn K (.ref f_outs) = true)
    (a_dist : PySem.W.nsIn K mainGlobals "distances_from" = some (some (.ref f_dist)))
    (l_dist : K.lookup f_dist = some ⟨oc_dist, od_dist, .func (PySem.W.fnOf "distances_from" "distances_from" (defArgs sDist) (defBody sDist) (defScope sDist) .none kV_dist dc_dist pm_dist an_dist cd_dist ct_dist), sl_dist⟩)
    (d_dist : PySem.W.codeIn K cd_dist "distances_from" = true)
    (k_dist : PySem.W.keepIn K (.ref f_dist) = true)
    (a_reach : PySem.W.nsIn K mainGlobals "check_reached" = some (some (.ref f_reach)))
    (l_reach : K.lookup f_reach = some ⟨oc_reach, od_reach, .func (PySem.W.fnOf "check_reached" "check_reached" (defArgs sReach) (defBody sReach) (defScope sReach) .none kV_reach dc_reach pm_reach an_reach cd_reach ct_reach), sl_reach⟩)
    (d_reach : PySem.W.codeIn K cd_reach "check_reached" = true)
    (k_reach : PySem.W.keepIn K (.ref f_reach) = true)
    (a_pot : PySem.W.nsIn K mainGlobals "_law_pot" = some (some (.ref f_pot)))
    (l_pot : K.lookup f_pot = some ⟨oc_pot, od_pot, .func (PySem.W.fnOf "_law_pot" "_law_pot" (defArgs sPot) (defBody sPot) (defScope sPot) .none kV_pot dc_pot pm_pot an_pot cd_pot ct_pot), sl_pot⟩)
    (d_pot : PySem.W.codeIn K cd_pot "_law_pot" = true)
    (k_pot : PySem.W.keepIn K (.ref f_pot) = true)
    (a_digit : PySem.W.nsIn K mainGlobals "_law_digit" = some (some (.ref f_digit)))
    (l_digit : K.lookup f_digit = some ⟨oc_digit, od_digit, .func (PySem.W.fnOf "_law_digit" "_law_digit" (defArgs sDigit) (defBody sDigit) (defScope sDigit) .none kV_digit dc_digit pm_digit an_digit cd_digit ct_digit), sl_digit⟩)
    (d_digit : PySem.W.codeIn K cd_digit "_law_digit" = true)
    (k_digit : PySem.W.keepIn K (.ref f_digit) = true)
    (a_some : PySem.W.nsIn K mainGlobals "_law_some" = some (some (.ref f_some)))
    (l_some : K.lookup f_some = some ⟨oc_some, od_some, .func (PySem.W.fnOf "_law_some" "_law_some" (defArgs sSome) (defBody sSome) (defScope sSome) .none kV_some dc_some pm_some an_some cd_some ct_some), sl_some⟩)
    (d_some : PySem.W.codeIn K cd_some "_law_some" = true)
    (k_some : PySem.W.keepIn K (.ref f_some) = true)
    (a_round : PySem.W.nsIn K mainGlobals "_law_round" = some (some (.ref f_round)))
    (l_round : K.lookup f_round = some ⟨oc_round, od_round, .func (PySem.W.fnOf "_law_round" "_law_round" (defArgs sRound) (defBody sRound) (defScope sRound) .none kV_round dc_round pm_round an_round cd_round ct_round), sl_round⟩)
    (d_round : PySem.W.codeIn K cd_round "_law_round" = true)
    (k_round : PySem.W.keepIn K (.ref f_round) = true)
    (a_tree : PySem.W.nsIn K mainGlobals "_law_tree" = some (some (.ref f_tree)))
    (l_tree : K.lookup f_tree = some ⟨oc_tree, od_tree, .func (PySem.W.fnOf "_law_tree" "_law_tree" (defArgs sTree) (defBody sTree) (defScope sTree) .none kV_tree dc_tree pm_tree an_tree cd_tree ct_tree), sl_tree⟩)
    (d_tree : PySem.W.codeIn K cd_tree "_law_tree" = true)
    (k_tree : PySem.W.keepIn K (.ref f_tree) = true)
    (a_net : PySem.W.nsIn K mainGlobals "_law_net" = some (some (.ref f_net)))
    (l_net : K.lookup f_net = some ⟨oc_net, od_net, .func (PySem.W.fnOf "_law_net" "_law_net" (defArgs sNet) (defBody sNet) (defScope sNet) .none kV_net dc_net pm_net an_net cd_net ct_net), sl_net⟩)
    (d_net : PySem.W.codeIn K cd_net "_law_net" = true)
    (k_net : PySem.W.keepIn K (.ref f_net) = true)
    (a_leads : PySem.W.nsIn K mainGlobals "_law_leads" = some (some (.ref f_leads)))
    (l_leads : K.lookup f_leads = some ⟨oc_leads, od_leads, .func (PySem.W.fnOf "_law_leads" "_law_leads" (defArgs sLeads) (defBody sLeads) (defScope sLeads) .none kV_leads dc_leads pm_leads an_leads cd_leads ct_leads), sl_leads⟩)
    (d_leads : PySem.W.codeIn K cd_leads "_law_leads" = true)
    (k_leads : PySem.W.keepIn K (.ref f_leads) = true)
    (a_fars : PySem.W.nsIn K mainGlobals "_law_fars" = some (some (.ref f_fars)))
    (l_fars : K.lookup f_fars = some ⟨oc_fars, od_fars, .func (PySem.W.fnOf "_law_fars" "_law_fars" (defArgs sFars) (defBody sFars) (defScope sFars) .none kV_fars dc_fars pm_fars an_fars cd_fars ct_fars), sl_fars⟩)
    (d_fars : PySem.W.codeIn K cd_fars "_law_fars" = true)
    (k_fars : PySem.W.keepIn K (.ref f_fars) = true)
    (a_lwhole : PySem.W.nsIn K mainGlobals "_law_whole" = some (some (.ref f_lwhole)))
    (l_lwhole : K.lookup f_lwhole = some ⟨oc_lwhole, od_lwhole, .func (PySem.W.fnOf "_law_whole" "_law_whole" (defArgs sLWhole) (defBody sLWhole) (defScope sLWhole) .none kV_lwhole dc_lwhole pm_lwhole an_lwhole cd_lwhole ct_lwhole), sl_lwhole⟩)
    (d_lwhole : PySem.W.codeIn K cd_lwhole "_law_whole" = true)
    (k_lwhole : PySem.W.keepIn K (.ref f_lwhole) = true)
    (a_rowIs : PySem.W.nsIn K mainGlobals "_law_row_is" = some (some (.ref f_rowIs)))
    (l_rowIs : K.lookup f_rowIs = some ⟨oc_rowIs, od_rowIs, .func (PySem.W.fnOf "_law_row_is" "_law_row_is" (defArgs sRowIs) (defBody sRowIs) (defScope sRowIs) .none kV_rowIs dc_rowIs pm_rowIs an_rowIs cd_rowIs ct_rowIs), sl_rowIs⟩)
    (d_rowIs : PySem.W.codeIn K cd_rowIs "_law_row_is" = true)
    (k_rowIs : PySem.W.keepIn K (.ref f_rowIs) = true)
    (a_tells : PySem.W.nsIn K mainGlobals "_law_tells" = some (some (.ref f_tells)))
    (l_tells : K.lookup f_tells = some ⟨oc_tells, od_tells, .func (PySem.W.fnOf "_law_tells" "_law_tells" (defArgs sTells) (defBody sTells) (defScope sTells) .none kV_tells dc_tells pm_tells an_tells cd_tells ct_tells), sl_tells⟩)
    (d_tells : PySem.W.codeIn K cd_tells "_law_tells" = true)
    (k_tells : PySem.W.keepIn K (.ref f_tells) = true)
    (a_asked : PySem.W.nsIn K mainGlobals "_law_asked" = some (some (.ref f_asked)))
    (l_asked : K.lookup f_asked = some ⟨oc_asked, od_asked, .func (PySem.W.fnOf "_law_asked" "_law_asked" (defArgs sAsked) (defBody sAsked) (defScope sAsked) .none kV_asked dc_asked pm_asked an_asked cd_asked ct_asked), sl_asked⟩)
    (d_asked : PySem.W.codeIn K cd_asked "_law_asked" = true)
    (k_asked : PySem.W.keepIn K (.ref f_asked) = true)
    (a_refused : PySem.W.nsIn K mainGlobals "_law_refused" = some (some (.ref f_refused)))
    (l_refused : K.lookup f_refused = some ⟨oc_refused, od_refused, .func (PySem.W.fnOf "_law_refused" "_law_refused" (defArgs sRefused) (defBody sRefused) (defScope sRefused) .none kV_refused dc_refused pm_refused an_refused cd_refused ct_refused), sl_refused⟩)
    (d_refused : PySem.W.codeIn K cd_refused "_law_refused" = true)
    (k_refused : PySem.W.keepIn K (.ref f_refused) = true)
    (a_refuses : PySem.W.nsIn K mainGlobals "_law_refuses" = some (some (.ref f_refuses)))
    (l_refuses : K.lookup f_refuses = some ⟨oc_refuses, od_refuses, .func (PySem.W.fnOf "_law_refuses" "_law_refuses" (defArgs sRefuses) (defBody sRefuses) (defScope sRefuses) .none kV_refuses dc_refuses pm_refuses an_refuses cd_refuses ct_refuses), sl_refuses⟩)
    (d_refuses : PySem.W.codeIn K cd_refuses "_law_refuses" = true)
    (k_refuses : PySem.W.keepIn K (.ref f_refuses) = true)
    (a_emptied : PySem.W.nsIn K mainGlobals "_law_emptied" = some (some (.ref f_emptied)))
    (l_emptied : K.lookup f_emptied = some ⟨oc_emptied, od_emptied, .func (PySem.W.fnOf "_law_emptied" "_law_emptied" (defArgs sEmptied) (defBody sEmptied) (defScope sEmptied) .none kV_emptied dc_emptied pm_emptied an_emptied cd_emptied ct_emptied), sl_emptied⟩)
    (d_emptied : PySem.W.codeIn K cd_emptied "_law_emptied" = true)
    (k_emptied : PySem.W.keepIn K (.ref f_emptied) = true)
    (a_law : PySem.W.nsIn K mainGlobals "law" = some (some (.ref f_law)))
    (l_law : K.lookup f_law = some ⟨oc_law, od_law, .func (PySem.W.fnOf "law" "law" (defArgs sLaw) (defBody sLaw) (defScope sLaw) .none kV_law dc_law pm_law an_law cd_law ct_law), sl_law⟩)
    (d_law : PySem.W.codeIn K cd_law "law" = true)
    (k_law : PySem.W.keepIn K (.ref f_law) = true)
    (a_m_init : PySem.W.findIn K (.ref C) "__init__" = some (some (.ref f_m_init)))
    (i_m_init : PySem.W.isFn K (.ref f_m_init) = true)
    (l_m_init : K.lookup f_m_init = some ⟨oc_m_init, od_m_init, .func (PySem.W.fnOf "__init__" "Net.__init__" (defArgs sInit) (defBody sInit) (defScope sInit) .none kV_m_init dc_m_init pm_m_init an_m_init cd_m_init ct_m_init), sl_m_init⟩)
    (d_m_init : PySem.W.codeIn K cd_m_init "Net.__init__" = true)
    (k_m_init : PySem.W.keepIn K (.ref f_m_init) = true)
    (a_m_check : PySem.W.findIn K (.ref C) "check_house" = some (some (.ref f_m_check)))
    (i_m_check : PySem.W.isFn K (.ref f_m_check) = true)
    (l_m_check : K.lookup f_m_check = some ⟨oc_m_check, od_m_check, .func (PySem.W.fnOf "check_house" "Net.check_house" (defArgs sCheck) (defBody sCheck) (defScope sCheck) .none kV_m_check dc_m_check pm_m_check an_m_check cd_m_check ct_m_check), sl_m_check⟩)
    (d_m_check : PySem.W.codeIn K cd_m_check "Net.check_house" = true)
    (k_m_check : PySem.W.keepIn K (.ref f_m_check) = true)
    (a_m_out : PySem.W.findIn K (.ref C) "out" = some (some (.ref f_m_out)))
    (i_m_out : PySem.W.isFn K (.ref f_m_out) = true)
    (l_m_out : K.lookup f_m_out = some ⟨oc_m_out, od_m_out, .func (PySem.W.fnOf "out" "Net.out" (defArgs sOut) (defBody sOut) (defScope sOut) .none kV_m_out dc_m_out pm_m_out an_m_out cd_m_out ct_m_out), sl_m_out⟩)
    (d_m_out : PySem.W.codeIn K cd_m_out "Net.out" = true)
    (k_m_out : PySem.W.keepIn K (.ref f_m_out) = true)
    (a_m_far : PySem.W.findIn K (.ref C) "far" = some (some (.ref f_m_far)))
    (i_m_far : PySem.W.isFn K (.ref f_m_far) = true)
    (l_m_far : K.lookup f_m_far = some ⟨oc_m_far, od_m_far, .func (PySem.W.fnOf "far" "Net.far" (defArgs sFar) (defBody sFar) (defScope sFar) .none kV_m_far dc_m_far pm_m_far an_m_far cd_m_far ct_m_far), sl_m_far⟩)
    (d_m_far : PySem.W.codeIn K cd_m_far "Net.far" = true)
    (k_m_far : PySem.W.keepIn K (.ref f_m_far) = true)
    (a_m_span : PySem.W.findIn K (.ref C) "span" = some (some (.ref f_m_span)))
    (i_m_span : PySem.W.isFn K (.ref f_m_span) = true)
    (l_m_span : K.lookup f_m_span = some ⟨oc_m_span, od_m_span, .func (PySem.W.fnOf "span" "Net.span" (defArgs sSpan) (defBody sSpan) (defScope sSpan) .none kV_m_span dc_m_span pm_m_span an_m_span cd_m_span ct_m_span), sl_m_span⟩)
    (d_m_span : PySem.W.codeIn K cd_m_span "Net.span" = true)
    (k_m_span : PySem.W.keepIn K (.ref f_m_span) = true)
    (a_m_good : PySem.W.findIn K (.ref C) "good" = some (some (.ref f_m_good)))
    (i_m_good : PySem.W.isFn K (.ref f_m_good) = true)
    (l_m_good : K.lookup f_m_good = some ⟨oc_m_good, od_m_good, .func (PySem.W.fnOf "good" "Net.good" (defArgs sGood) (defBody sGood) (defScope sGood) .none kV_m_good dc_m_good pm_m_good an_m_good cd_m_good ct_m_good), sl_m_good⟩)
    (d_m_good : PySem.W.codeIn K cd_m_good "Net.good" = true)
    (k_m_good : PySem.W.keepIn K (.ref f_m_good) = true)
    (pg : PySem.W.plainGet K C Str.empty = true)
    (q_hd : PySem.W.hasDictIn K C = true)
    (po : PySem.W.plainOver K C = true)
    (sa : PySem.W.findIn K (.ref C) "__setattr__" = some (some (.builtin "object.__setattr__")))
    (mk : PySem.W.makesIn K C = true)
    (kc : PySem.W.keepIn K (.ref C) = true)
    (nH : PySem.W.findIn K (.ref C) "house_count" = some none)
    (nT : PySem.W.findIn K (.ref C) "tie_list" = some none)
    (nO : PySem.W.findIn K (.ref C) "out_lists" = some none)
    (nD : PySem.W.findIn K (.ref C) "distances" = some none)
    (z_isinstance : PySem.W.nsIn K mainGlobals "isinstance" = some none)
    (z_int : PySem.W.nsIn K mainGlobals "int" = some none)
    (z_bool : PySem.W.nsIn K mainGlobals "bool" = some none)
    (z_tuple : PySem.W.nsIn K mainGlobals "tuple" = some none)
    (z_list : PySem.W.nsIn K mainGlobals "list" = some none)
    (z_str : PySem.W.nsIn K mainGlobals "str" = some none)
    (z_set : PySem.W.nsIn K mainGlobals "set" = some none)
    (z_len : PySem.W.nsIn K mainGlobals "len" = some none)
    (z_range : PySem.W.nsIn K mainGlobals "range" = some none)
    (z_sorted : PySem.W.nsIn K mainGlobals "sorted" = some none)
    (z_any : PySem.W.nsIn K mainGlobals "any" = some none)
    (z_max : PySem.W.nsIn K mainGlobals "max" = some none)
    (z_min : PySem.W.nsIn K mainGlobals "min" = some none)
    (z_ValueError : PySem.W.nsIn K mainGlobals "ValueError" = some none)
    (z_all : PySem.W.nsIn K mainGlobals "all" = some none)
    (g_FEWEST_HOUSES : PySem.W.nsIn K mainGlobals "FEWEST_HOUSES" = some (some (.int 2 t_FEWEST_HOUSES)))
    (g_MOST_HOUSES : PySem.W.nsIn K mainGlobals "MOST_HOUSES" = some (some (.int 32 t_MOST_HOUSES)))
    (g_MOST_TIES_OUT : PySem.W.nsIn K mainGlobals "MOST_TIES_OUT" = some (some (.int 8 t_MOST_TIES_OUT)))
    (e_BeatError : ECls K x_BeatError)
    (e_NoHouse : ECls K x_NoHouse)
    (kA : PySem.W.kitAny K (.ref x_NoHouse) ([x_NoBerth, x_NoHanding, x_NoNet, x_NoPlan, x_NoRanks, x_NoRow, x_NoShape, x_NoStand, x_NoText, x_NoTie, x_TooMany].map Value.ref) = some false)
    (kH : PySem.W.kitOne K (.ref x_NoHouse) (.ref x_NoHouse) = some true)
    (kV : PySem.W.kitOne K (.ref x_NoHouse) (.type "ValueError") = some true)
    (kS : PySem.W.subIn K (.ref x_NoHouse) (.ref x_BeatError) = some true)
    (q_outs : PySem.W.codeHdIn K cO Pt = true) :
    ∃ fd : FuncData, (∀ (s : Shared) (v : Value), BindsTo s fd ⟨[v], []⟩ [("_law_script", v)]) ∧ ∀ base : Heap, K.In base → base.Ns mainGlobals mg → BmOk mg base → FnOk l.prog w K mg base CX0 9 fa fd ["_law_script"] (spLaw K Pt) := by
  have e := hfa.symm.trans (PySem.W.mg_of X G a_law)
  cases e
  have B : Bl mg := ⟨PySem.W.mg_none_of X G z_isinstance, PySem.W.mg_none_of X G z_int, PySem.W.mg_none_of X G z_bool, PySem.W.mg_none_of X G z_tuple, PySem.W.mg_none_of X G z_list, PySem.W.mg_none_of X G z_str, PySem.W.mg_none_of X G z_set, PySem.W.mg_none_of X G z_len, PySem.W.mg_none_of X G z_range, PySem.W.mg_none_of X G z_sorted, PySem.W.mg_none_of X G z_any, PySem.W.mg_none_of X G z_max, PySem.W.mg_none_of X G z_min, PySem.W.mg_none_of X G z_ValueError, PySem.W.mg_none_of X G z_all⟩
  have T : NT K mg C := ⟨⟨pg, q_hd, po, sa⟩, nH, nT, nO, nD, PySem.W.mg_of X G aC⟩
  let c : Nat → Addr := fun i => [x_NoBerth, x_NoHanding, x_NoNet, x_NoPlan, x_NoRanks, x_NoRow, x_NoShape, x_NoStand, x_NoText, x_NoTie, x_TooMany].getD i 0
  have R : Errs K mg x_BeatError x_NoHouse c := ⟨⟨PySem.W.mg_of X G a_BeatError, e_BeatError⟩, ⟨PySem.W.mg_of X G a_NoHouse, e_NoHouse⟩, PySem.W.mg_of X G a_NoBerth, PySem.W.mg_of X G a_NoHanding, PySem.W.mg_of X G a_NoNet, PySem.W.mg_of X G a_NoPlan, PySem.W.mg_of X G a_NoRanks, PySem.W.mg_of X G a_NoRow, PySem.W.mg_of X G a_NoShape, PySem.W.mg_of X G a_NoStand, PySem.W.mg_of X G a_NoText, PySem.W.mg_of X G a_NoTie, PySem.W.mg_of X G a_TooMany, kA, kH, kV, kS⟩
  have F_whole := fun_mk (x := "is_whole") (qual := "is_whole") (st := sWhole) l_whole d_whole k_whole
  have b_whole := F_whole.binds (ps := ["thing"]) fun _ _ _ _ _ _ us hl => match us, hl with | [_], _ => rfl
  have F_within := fun_mk (x := "is_whole_within") (qual := "is_whole_within") (st := sWithin) l_within d_within k_within
  have b_within := F_within.binds (ps := ["thing", "least", "most"]) fun _ _ _ _ _ _ us hl => match us, hl with | [_, _, _], _ => rfl
  have F_house := fun_mk (x := "is_house") (qual := "is_house") (st := sHouse) l_house d_house k_house
  have b_house := F_house.binds (ps := ["many", "thing"]) fun _ _ _ _ _ _ us hl => match us, hl with | [_, _], _ => rfl
  have F_row := fun_mk (x := "is_row") (qual := "is_row") (st := sRow) l_row d_row k_row
  have b_row := F_row.binds (ps := ["thing", "length"]) fun _ _ _ _ _ _ us hl => match us, hl with | [_, _], _ => rfl
  have F_unl := fun_mk (x := "are_unlike_houses") (qual := "are_unlike_houses") (st := sUnl) l_unl d_unl k_unl
  have b_unl := F_unl.binds (ps := ["many", "one", "other"]) fun _ _ _ _ _ _ us hl => match us, hl with | [_, _, _], _ => rfl
  have F_tie := fun_mk (x := "is_tie") (qual := "is_tie") (st := sTie) l_tie d_tie k_tie
  have b_tie := F_tie.binds (ps := ["many", "thing"]) fun _ _ _ _ _ _ us hl => match us, hl with | [_, _], _ => rfl
  have F_cties := fun_mk (x := "check_ties") (qual := "check_ties") (st := sCTies) l_cties d_cties k_cties
  have b_cties := F_cties.binds (ps := ["many", "ties"]) fun _ _ _ _ _ _ us hl => match us, hl with | [_, _], _ => rfl
  have F_bal := fun_mk (x := "check_balance") (qual := "check_balance") (st := sBal) l_bal d_bal k_bal
  have b_bal := F_bal.binds (ps := ["many", "ties"]) fun _ _ _ _ _ _ us hl => match us, hl with | [_, _], _ => rfl
  have F_outs := funC_mk (x := "houses_out") (qual := "houses_out") (st := sOuts) l_outs d_outs k_outs
  have b_outs := F_outs.fun.binds (ps := ["many", "ties", "house"]) fun _ _ _ _ _ _ us hl => match us, hl with | [_, _, _], _ => rfl
  have F_dist := fun_mk (x := "distances_from") (qual := "distances_from") (st := sDist) l_dist d_dist k_dist
  have b_dist := F_dist.binds (ps := ["out_lists", "start"]) fun _ _ _ _ _ _ us hl => match us, hl with | [_, _], _ => rfl
  have F_reach := fun_mk (x := "check_reached") (qual := "check_reached") (st := sReach) l_reach d_reach k_reach
  have b_reach := F_reach.binds (ps := ["distances"]) fun _ _ _ _ _ _ us hl => match us, hl with | [_], _ => rfl
  have F_pot := fun_mk (x := "_law_pot") (qual := "_law_pot") (st := sPot) l_pot d_pot k_pot
  have b_pot := F_pot.binds (ps := ["_law_script", "_law_k"]) fun _ _ _ _ _ _ us hl => match us, hl with | [_, _], _ => rfl
  have F_digit := fun_mk (x := "_law_digit") (qual := "_law_digit") (st := sDigit) l_digit d_digit k_digit
  have b_digit := F_digit.binds (ps := ["_law_pot_here", "_law_many"]) fun _ _ _ _ _ _ us hl => match us, hl with | [_, _], _ => rfl
  have F_some := fun_mk (x := "_law_some") (qual := "_law_some") (st := sSome) l_some d_some k_some
  have b_some := F_some.binds (ps := ["_law_pot_here", "_law_many", "_law_count"]) fun _ _ _ _ _ _ us hl => match us, hl with | [_, _, _], _ => rfl
  have F_round := fun_mk (x := "_law_round") (qual := "_law_round") (st := sRound) l_round d_round k_round
  have b_round := F_round.binds (ps := ["_law_pot_here", "_law_many", "_law_ties"]) fun _ _ _ _ _ _ us hl => match us, hl with | [_, _, _], _ => rfl
  have F_tree := fun_mk (x := "_law_tree") (qual := "_law_tree") (st := sTree) l_tree d_tree k_tree
  have b_tree := F_tree.binds (ps := ["_law_pot_here", "_law_many"]) fun _ _ _ _ _ _ us hl => match us, hl with | [_, _], _ => rfl
  have F_net := fun_mk (x := "_law_net") (qual := "_law_net") (st := sNet) l_net d_net k_net
  have b_net := F_net.binds (ps := ["_law_pot_here"]) fun _ _ _ _ _ _ us hl => match us, hl with | [_], _ => rfl
  have F_leads := fun_mk (x := "_law_leads") (qual := "_law_leads") (st := sLeads) l_leads d_leads k_leads
  have b_leads := F_leads.binds (ps := ["_law_many", "_law_ties"]) fun _ _ _ _ _ _ us hl => match us, hl with | [_, _], _ => rfl
  have F_fars := fun_mk (x := "_law_fars") (qual := "_law_fars") (st := sFars) l_fars d_fars k_fars
  have b_fars := F_fars.binds (ps := ["_law_leads_here", "_law_house"]) fun _ _ _ _ _ _ us hl => match us, hl with | [_, _], _ => rfl
  have F_lwhole := fun_mk (x := "_law_whole") (qual := "_law_whole") (st := sLWhole) l_lwhole d_lwhole k_lwhole
  have b_lwhole := F_lwhole.binds (ps := ["_law_thing"]) fun _ _ _ _ _ _ us hl => match us, hl with | [_], _ => rfl
  have F_rowIs := fun_mk (x := "_law_row_is") (qual := "_law_row_is") (st := sRowIs) l_rowIs d_rowIs k_rowIs
  have b_rowIs := F_rowIs.binds (ps := ["_law_found", "_law_due"]) fun _ _ _ _ _ _ us hl => match us, hl with | [_, _], _ => rfl
  have F_tells := fun_mk (x := "_law_tells") (qual := "_law_tells") (st := sTells) l_tells d_tells k_tells
  have b_tells := F_tells.binds (ps := ["_law_net_here", "_law_many", "_law_ties"]) fun _ _ _ _ _ _ us hl => match us, hl with | [_, _, _], _ => rfl
  have F_asked := fun_mk (x := "_law_asked") (qual := "_law_asked") (st := sAsked) l_asked d_asked k_asked
  have b_asked := F_asked.binds (ps := ["_law_deed", "_law_net_here", "_law_thing"]) fun _ _ _ _ _ _ us hl => match us, hl with | [_, _, _], _ => rfl
  have F_refused := fun_mk (x := "_law_refused") (qual := "_law_refused") (st := sRefused) l_refused d_refused k_refused
  have b_refused := F_refused.binds (ps := ["_law_e"]) fun _ _ _ _ _ _ us hl => match us, hl with | [_], _ => rfl
  have F_refuses := fun_mk (x := "_law_refuses") (qual := "_law_refuses") (st := sRefuses) l_refuses d_refuses k_refuses
  have b_refuses := F_refuses.binds (ps := ["_law_deed", "_law_net_here", "_law_thing"]) fun _ _ _ _ _ _ us hl => match us, hl with | [_, _, _], _ => rfl
  have F_emptied := fun_mk (x := "_law_emptied") (qual := "_law_emptied") (st := sEmptied) l_emptied d_emptied k_emptied
  have b_emptied := F_emptied.binds (ps := ["_law_net_here", "_law_house", "_law_home"]) fun _ _ _ _ _ _ us hl => match us, hl with | [_, _, _], _ => rfl
  have F_law := fun_mk (x := "law") (qual := "law") (st := sLaw) l_law d_law k_law
  have b_law := F_law.binds (ps := ["_law_script"]) fun _ _ _ _ _ _ us hl => match us, hl with | [_], _ => rfl
  have F_m_init := fun_mk (x := "__init__") (qual := "Net.__init__") (st := sInit) l_m_init d_m_init k_m_init
  have b_m_init := F_m_init.binds (ps := ["self", "many", "ties"]) fun _ _ _ _ _ _ us hl => match us, hl with | [_, _, _], _ => rfl
  have F_m_check := fun_mk (x := "check_house") (qual := "Net.check_house") (st := sCheck) l_m_check d_m_check k_m_check
  have b_m_check := F_m_check.binds (ps := ["self", "thing"]) fun _ _ _ _ _ _ us hl => match us, hl with | [_, _], _ => rfl
  have F_m_out := fun_mk (x := "out") (qual := "Net.out") (st := sOut) l_m_out d_m_out k_m_out
  have b_m_out := F_m_out.binds (ps := ["self", "house"]) fun _ _ _ _ _ _ us hl => match us, hl with | [_, _], _ => rfl
  have F_m_far := fun_mk (x := "far") (qual := "Net.far") (st := sFar) l_m_far d_m_far k_m_far
  have b_m_far := F_m_far.binds (ps := ["self", "one", "other"]) fun _ _ _ _ _ _ us hl => match us, hl with | [_, _, _], _ => rfl
  have F_m_span := fun_mk (x := "span") (qual := "Net.span") (st := sSpan) l_m_span d_m_span k_m_span
  have b_m_span := F_m_span.binds (ps := ["self"]) fun _ _ _ _ _ _ us hl => match us, hl with | [_], _ => rfl
  have F_m_good := fun_mk (x := "good") (qual := "Net.good") (st := sGood) l_m_good d_m_good k_m_good
  have b_m_good := F_m_good.binds (ps := ["self", "house", "home"]) fun _ _ _ _ _ _ us hl => match us, hl with | [_, _, _], _ => rfl
  refine ⟨PySem.W.fnOf "law" "law" (defArgs sLaw) (defBody sLaw) (defScope sLaw) .none kV_law dc_law pm_law an_law cd_law ct_law, fun s v => .of_eq rfl, fun base kb nb hb => ?_⟩
  have C_whole : Cal l.prog w K mg base CX0 1 "is_whole" ["thing"] (spWhole K) := ⟨⟨f_whole, _, PySem.W.mg_of X G a_whole, k_whole, b_whole, ok_whole F_whole B⟩⟩
  have C_within : Cal l.prog w K mg base CX0 2 "is_whole_within" ["thing", "least", "most"] (spWithin K) := ⟨⟨f_within, _, PySem.W.mg_of X G a_within, k_within, b_within, ok_within F_within C_whole⟩⟩
  have C_house : Cal l.prog w K mg base CX0 3 "is_house" ["many", "thing"] (spHouse K) := ⟨⟨f_house, _, PySem.W.mg_of X G a_house, k_house, b_house, ok_house F_house C_within⟩⟩
  have C_row : Cal l.prog w K mg base CX0 1 "is_row" ["thing", "length"] (spRow K) := ⟨⟨f_row, _, PySem.W.mg_of X G a_row, k_row, b_row, ok_row F_row B⟩⟩
  have C_unl : Cal l.prog w K mg base CX0 4 "are_unlike_houses" ["many", "one", "other"] spUnl := ⟨⟨f_unl, _, PySem.W.mg_of X G a_unl, k_unl, b_unl, ok_unl F_unl C_house⟩⟩
  have C_tie : Cal l.prog w K mg base CX0 5 "is_tie" ["many", "thing"] spTie := ⟨⟨f_tie, _, PySem.W.mg_of X G a_tie, k_tie, b_tie, ok_tie F_tie C_row C_unl⟩⟩
  have C_cties : Cal l.prog w K mg base CX0 6 "check_ties" ["many", "ties"] spCTies := ⟨⟨f_cties, _, PySem.W.mg_of X G a_cties, k_cties, b_cties, ok_cties F_cties B ⟨_, PySem.W.mg_of X G g_FEWEST_HOUSES⟩ ⟨_, PySem.W.mg_of X G g_MOST_HOUSES⟩ C_within C_tie⟩⟩
  have C_bal : Cal l.prog w K mg base CX0 1 "check_balance" ["many", "ties"] spCTies := ⟨⟨f_bal, _, PySem.W.mg_of X G a_bal, k_bal, b_bal, ok_bal F_bal B ⟨_, PySem.W.mg_of X G g_MOST_TIES_OUT⟩⟩⟩
  have C_outs : Cal l.prog w K mg base CX0 1 "houses_out" ["many", "ties", "house"] (spOuts Pt) := ⟨⟨f_outs, _, PySem.W.mg_of X G a_outs, k_outs, b_outs, ok_outs F_outs B kb hb q_outs⟩⟩
  have C_dist : Cal l.prog w K mg base CX0 1 "distances_from" ["out_lists", "start"] spDist := ⟨⟨f_dist, _, PySem.W.mg_of X G a_dist, k_dist, b_dist, ok_dist F_dist B⟩⟩
  have C_reach : Cal l.prog w K mg base CX0 1 "check_reached" ["distances"] spReach := ⟨⟨f_reach, _, PySem.W.mg_of X G a_reach, k_reach, b_reach, ok_reach F_reach B⟩⟩
  have G_init : FnOk l.prog w K mg base CX0 7 f_m_init _ ["self", "many", "ties"] (spInit C Pt) := ok_init F_m_init T B C_cties C_bal C_outs C_dist C_reach
  have MK : Mk K C f_m_init := ⟨mk, a_m_init, i_m_init, kc⟩
  have M_check : MCal l.prog w K mg base (CXf l.prog w) 4 C "check_house" ["self", "thing"] (spCheck K C x_NoHouse) := ⟨⟨f_m_check, _, ⟨a_m_check, i_m_check, k_m_check⟩, b_m_check, ok_check F_m_check T ⟨PySem.W.mg_of X G a_NoHouse, e_NoHouse⟩ C_house⟩⟩
  have M_out : MCal l.prog w K mg base (CXf l.prog w) 5 C "out" ["self", "house"] (spAsk K C x_NoHouse aOut) := ⟨⟨f_m_out, _, ⟨a_m_out, i_m_out, k_m_out⟩, b_m_out, ok_out F_m_out T B M_check⟩⟩
  have M_far : MCal l.prog w K mg base (CXf l.prog w) 5 C "far" ["self", "one", "other"] (spFar K C x_NoHouse) := ⟨⟨f_m_far, _, ⟨a_m_far, i_m_far, k_m_far⟩, b_m_far, ok_far F_m_far T M_check⟩⟩
  have M_span : MCal l.prog w K mg base CX0 1 C "span" ["self"] (spSpan C) := ⟨⟨f_m_span, _, ⟨a_m_span, i_m_span, k_m_span⟩, b_m_span, ok_span F_m_span T B⟩⟩
  have M_good : MCal l.prog w K mg base (CXf l.prog w) 6 C "good" ["self", "house", "home"] (spGood K C x_NoHouse) := ⟨⟨f_m_good, _, ⟨a_m_good, i_m_good, k_m_good⟩, b_m_good, ok_good F_m_good T M_far⟩⟩
  have C_pot : Cal l.prog w K mg base CX0 1 "_law_pot" ["_law_script", "_law_k"] (spPot K) := ⟨⟨f_pot, _, PySem.W.mg_of X G a_pot, k_pot, b_pot, ok_pot F_pot B⟩⟩
  have C_digit : Cal l.prog w K mg base CX0 1 "_law_digit" ["_law_pot_here", "_law_many"] spDigit := ⟨⟨f_digit, _, PySem.W.mg_of X G a_digit, k_digit, b_digit, ok_digit F_digit⟩⟩
  have C_some : Cal l.prog w K mg base CX0 2 "_law_some" ["_law_pot_here", "_law_many", "_law_count"] spSome := ⟨⟨f_some, _, PySem.W.mg_of X G a_some, k_some, b_some, ok_some F_some B C_digit⟩⟩
  have C_round : Cal l.prog w K mg base CX0 3 "_law_round" ["_law_pot_here", "_law_many", "_law_ties"] spRound := ⟨⟨f_round, _, PySem.W.mg_of X G a_round, k_round, b_round, ok_round F_round B C_digit C_some⟩⟩
  have C_tree : Cal l.prog w K mg base CX0 3 "_law_tree" ["_law_pot_here", "_law_many"] spTree := ⟨⟨f_tree, _, PySem.W.mg_of X G a_tree, k_tree, b_tree, ok_tree F_tree B C_digit C_some⟩⟩
  have C_net : Cal l.prog w K mg base CX0 4 "_law_net" ["_law_pot_here"] spNet := ⟨⟨f_net, _, PySem.W.mg_of X G a_net, k_net, b_net, ok_net F_net B C_digit C_some C_tree C_round⟩⟩
  have C_leads : Cal l.prog w K mg base CX0 1 "_law_leads" ["_law_many", "_law_ties"] spLeads := ⟨⟨f_leads, _, PySem.W.mg_of X G a_leads, k_leads, b_leads, ok_leads F_leads B⟩⟩
  have C_fars : Cal l.prog w K mg base CX0 1 "_law_fars" ["_law_leads_here", "_law_house"] spFars := ⟨⟨f_fars, _, PySem.W.mg_of X G a_fars, k_fars, b_fars, ok_fars F_fars B⟩⟩
  have C_lwhole : Cal l.prog w K mg base CX0 1 "_law_whole" ["_law_thing"] (spWhole K) := ⟨⟨f_lwhole, _, PySem.W.mg_of X G a_lwhole, k_lwhole, b_lwhole, ok_lwhole F_lwhole B⟩⟩
  have C_rowIs : Cal l.prog w K mg base CX0 2 "_law_row_is" ["_law_found", "_law_due"] spRowIs := ⟨⟨f_rowIs, _, PySem.W.mg_of X G a_rowIs, k_rowIs, b_rowIs, ok_rowIs F_rowIs B C_lwhole⟩⟩
  have C_tells : Cal l.prog w K mg base CX0 7 "_law_tells" ["_law_net_here", "_law_many", "_law_ties"] (spTells C) := ⟨⟨f_tells, _, PySem.W.mg_of X G a_tells, k_tells, b_tells, ok_tells F_tells B T C_lwhole C_rowIs C_leads C_fars M_out M_far M_good M_span⟩⟩
  have C_asked : Cal l.prog w K mg base (CXf l.prog w) 7 "_law_asked" ["_law_deed", "_law_net_here", "_law_thing"] (spAsked K C x_NoHouse) := ⟨⟨f_asked, _, PySem.W.mg_of X G a_asked, k_asked, b_asked, ok_asked F_asked T M_out M_far M_good⟩⟩
  have C_refused : CalW l.prog w K mg base 1 "_law_refused" ["_law_e"] (spRefused x_NoHouse) := ⟨⟨f_refused, _, PySem.W.mg_of X G a_refused, k_refused, b_refused, ok_refused F_refused B R⟩⟩
  have C_refuses : Cal l.prog w K mg base CX0 8 "_law_refuses" ["_law_deed", "_law_net_here", "_law_thing"] (spRefuses K C) := ⟨⟨f_refuses, _, PySem.W.mg_of X G a_refuses, k_refuses, b_refuses, ok_refuses F_refuses R C_asked C_refused⟩⟩
  have C_emptied : Cal l.prog w K mg base CX0 7 "_law_emptied" ["_law_net_here", "_law_house", "_law_home"] (spEmptied C) := ⟨⟨f_emptied, _, PySem.W.mg_of X G a_emptied, k_emptied, b_emptied, ok_emptied F_emptied T M_out M_far M_good⟩⟩
  exact ok_law F_law B T C_pot C_digit MK b_m_init G_init C_net C_tells C_emptied C_refuses
theorem ex_cd {K : PySem.W.Frag} {P : Addr} (h : ((List.range 2000).any fun c => PySem.W.codeHdIn K c P) = true) : ∃ c, PySem.W.codeHdIn K c P = true :=
  let ⟨c, _, e⟩ := List.any_eq_true.mp h; ⟨c, e⟩
theorem sqF_of {K : PySem.W.Frag} {H : Hp} {a : Addr} {xs : List V} {ts : List Addr} (hO : OnlyT ts H) (h : SqL K H a xs) : SqF K H a xs := by
  rcases h with h | h
  · rcases h with h | ⟨o, h⟩
    · rcases hO.2 a with z | ⟨_, z⟩ | ⟨o, ys, z⟩ <;> · rw [h] at z; cases z
    · exact .inl ⟨o, h⟩
  · exact .inr fun H' => .inr h
theorem walk {l : PySem.W.OpenLaw} {q : Program} {loose : List Str} {XP : (Str → Option Value) → Heap → Prop} {YP : World → Heap → Prop} {d : DefRec} {K : Params → PySem.W.Frag} {Pt : Addr} (hn : l.most = some 63) (hdf : d.params.defaults = [])
    (hY : ∀ (w : World) (h : Heap), YP w h → (K w.params).In h) (hT : ∀ (w : World) (h : Heap), YP w h → ∀ P ∈ [Pt], h.get? P = some (PySem.W.tabObj #[]))
    (hcd : ∀ (w : World), ((List.range 2000).any fun c => PySem.W.codeHdIn (K w.params) c Pt) = true) (hkt : ∀ (w : World), (K w.params).lookup Pt = none)
    (F : ∀ (w : World) (mg : Str → Option Value) (fa : Addr) (h : Heap), (K w.params).In h → h.Ns mainGlobals mg → mg d.name = some (.ref fa) →
      ∃ fd : FuncData, (∀ (s : Shared) (u : Value), BindsTo s fd ⟨[u], []⟩ [("_law_script", u)]) ∧ ∀ base : Heap, (K w.params).In base → base.Ns mainGlobals mg → BmOk mg base → FnOk l.prog w (K w.params) mg base CX0 9 fa fd ["_law_script"] (spLaw (K w.params) Pt)) :
    PySem.W.WalkO q loose XP YP l.row.toRowW d [] (fun f vs => PySem.call f vs) :=
  walk_ofT (n := 63) (k := 9) (x := "_law_script") (ts := [Pt]) (K := K) (CX := fun _ => CX0) (sp := fun w => (spLaw (K w.params) Pt)) hn (by decide) hdf ⟨rfl, by decide, by decide⟩ hY hT
    (fun w P hP => by rw [List.mem_singleton.mp hP]; exact ex_cd (hcd w)) (fun w P hP => by rw [List.mem_singleton.mp hP]; exact hkt w) F
    (fun w H a ns hl hO hS => ⟨a, ns, rfl, sqF_of hO hS, hl, .inl (hO.1 _ (by simp)), fun _ => rfl⟩) fun _ _ _ _ _ z => z
end K12
open PySem PySem.W PyProof.Rows
namespace PySem.W.Fast
theorem tw7429161255948855900 : True := trivial
theorem tw3811723568133881573 : True := trivial
theorem tw5925968186163587178 : True := trivial
theorem tw13052660275303012788 : True := trivial
theorem tw17412256948658728238 : True := trivial
theorem tw7171573863070970604 : True := trivial
theorem tw6949556160310763634 : True := trivial
theorem tw3355931951315230671 : True := trivial
theorem tw3443468149250484355 : True := trivial
theorem tw16136907768246350796 : True := trivial
theorem tw7793050218460520825 : True := trivial
theorem tw9672566202649089112 : True := trivial
theorem tw7155339825436769101 : True := trivial
theorem tw3225852881974236990 : True := trivial
theorem tw17336873832166688179 : True := trivial
theorem tw1381988394381762579 : True := trivial
theorem tw9169213882508121388 : True := trivial
theorem tw13263622086036372907 : True := trivial
theorem tw1545022146555049098 : True := trivial
theorem tw1498708498038682837 : True := trivial
theorem tw12104665460217099271 : True := trivial
theorem tw4412351999795143997 : True := trivial
theorem tw15437945254611524616 : True := trivial
theorem tw6268627622157562973 : True := trivial
theorem tw13389168320713347595 : True := trivial
theorem tw9822729472044980894 : True := trivial
theorem tw1895211832557535532 : True := trivial
theorem tw4581113306689152646 : True := trivial
theorem tw9123811036098316748 : True := trivial
theorem tw8728888530768460624 : True := trivial
theorem tw11431325650550128364 : True := trivial
theorem tw4742374015536143030 : True := trivial
theorem tw8926786236815481650 : True := trivial
theorem tw48106650350580254 : True := trivial
theorem tw2514996358064970588 : True := trivial
theorem tw16278327970360364401 : True := trivial
theorem tw4837060561499365647 : True := trivial
theorem tw9568497553674094660 : True := trivial
theorem tw13738042429479571274 : True := trivial
theorem tw6956390644084781932 : True := trivial
theorem tw5452712427535423736 : True := trivial
theorem tw12091199200929377972 : True := trivial
theorem tw12961257068417494170 : True := trivial
theorem tw11187482314122644867 : True := trivial
theorem tw9679186200196355572 : True := trivial
theorem tw5019207939333495419 : True := trivial
theorem tw16419036352887367084 : True := trivial
theorem tw7967431591432118738 : True := trivial
theorem tw15506928412377801568 : True := trivial
theorem tw8526786469811911608 : True := trivial
theorem tw6734792197037814719 : True := trivial
theorem tw6334158704281053637 : True := trivial
theorem tw12193565734464761945 : True := trivial
theorem tw8606267326179428785 : True := trivial
theorem tw17457624603496671508 : True := trivial
theorem tw10239322759220064769 : True := trivial
theorem tw11976572652531075237 : True := trivial
theorem tw15283498305763631783 : True := trivial
theorem tw2233620933838314340 : True := trivial
theorem tw16769480668049972535 : True := trivial
theorem tw5739887793557340033 : True := trivial
theorem tw3414637484991633058 : True := trivial
theorem tw17988182305494674751 : True := trivial
theorem tw8231780891019836653 : True := trivial
theorem tw2390564240405798407 : True := trivial
theorem tw6931384963707870739 : True := trivial
theorem tw14841183382197828307 : True := trivial
theorem tw17639243206278132532 : True := trivial
theorem tw10237413892452339824 : True := trivial
theorem tw14256030523353646210 : True := trivial
theorem tw13546880634514569911 : True := trivial
theorem tw7693747030442143388 : True := trivial
theorem tw3733840589055134137 : True := trivial
theorem tw17672003805767656216 : True := trivial
theorem tw4312388917319200877 : True := trivial
theorem tw11907139748931071532 : True := trivial
theorem tw8555901572293366530 : True := trivial
theorem tw7899550976452934447 : True := trivial
theorem tw4849214424614908464 : True := trivial
theorem tw1362994723424076372 : True := trivial
theorem tw5764674516766183055 : True := trivial
theorem tw3139586430696035797 : True := trivial
theorem tw4065924761510006972 : True := trivial
theorem tw5809585282011029682 : True := trivial
theorem tw11776675997375929066 : True := trivial
theorem tw1925473031663988077 : True := trivial
theorem tw9796749249401573111 : True := trivial
theorem tw11651673368484520397 : True := trivial
theorem tw1666235567774229496 : True := trivial
theorem tw7287313885653085891 : True := trivial
theorem tw2108174680477395666 : True := trivial
theorem tw1717583626705691546 : True := trivial
theorem tw2998431778012876925 : True := trivial
theorem tw18025097462291392180 : True := trivial
theorem tw12510808859033635545 : True := trivial
theorem tw15781340012105275897 : True := trivial
theorem tw17104350700648872467 : True := trivial
theorem tw5930959178630683552 : True := trivial
theorem tw8750788294057858522 : True := trivial
theorem tw6441039541902645969 : True := trivial
theorem tw4966354306116775356 : True := trivial
theorem tw17863545260181053039 : True := trivial
theorem tw16458233165710017945 : True := trivial
theorem tw2694593666290208837 : True := trivial
theorem tw17370026845282797671 : True := trivial
theorem tw7755628322696787142 : True := trivial
theorem tw4047802815687218462 : True := trivial
theorem tw3381700672162268117 : True := trivial
theorem tw14136844470363820111 : True := trivial
theorem tw13120320069977927765 : True := trivial
theorem tw16423960849282646974 : True := trivial
theorem tw17568132616725420134 : True := trivial
theorem tw15502703762084832365 : True := trivial
theorem tw13775561743101518586 : True := trivial
theorem tw2677483831642393865 : True := trivial
theorem tw12345173592113585852 : True := trivial
theorem tw10408847246856521673 : True := trivial
theorem tw13379287124025909501 : True := trivial
theorem tw4147691580493440121 : True := trivial
theorem tw7854372891544880425 : True := trivial
theorem tw12189395931263544637 : True := trivial
theorem tw3546899281423331136 : True := trivial
theorem tw17709715573665716962 : True := trivial
theorem tw17991650029562624757 : True := trivial
theorem tw2636700841973449038 : True := trivial
theorem tw10546950527097420056 : True := trivial
theorem tw10231583330143091204 : True := trivial
theorem tw13950260294972096239 : True := trivial
theorem tw6061043119143347834 : True := trivial
theorem tw15884159506193202903 : True := trivial
theorem tw7563062512632128205 : True := trivial
theorem tw3411482264655727675 : True := trivial
theorem tw11712263537950066141 : True := trivial
theorem tw1959158688869728919 : True := trivial
theorem tw11108557901868946268 : True := trivial
theorem tw7115908200402663152 : True := trivial
theorem tw12523625238018573499 : True := trivial
theorem tw9481945190337469852 : True := trivial
theorem tw12229005083084648864 : True := trivial
theorem tw2189093431853818245 : True := trivial
theorem tw8385487158209942869 : True := trivial
theorem tw14139326578863453325 : True := trivial
theorem tw15648034936038998548 : True := trivial
theorem tw11870242591198854588 : True := trivial
theorem tw11308197257337620513 : True := trivial
theorem tw17031973451953411329 : True := trivial
theorem tw305311713976685651 : True := trivial
theorem tw12859123245141644451 : True := trivial
theorem tw7437845296071670280 : True := trivial
theorem tw1605409589572353878 : True := trivial
theorem tw3427100619966686449 : True := trivial
theorem tw11147739913392896983 : True := trivial
theorem tw16681995681614219742 : True := trivial
theorem tw1484049497203892888 : True := trivial
theorem tw4392797269984394646 : True := trivial
theorem tw8618652666204793612 : True := trivial
theorem tw4013678880562466437 : True := trivial
theorem tw908399093168497591 : True := trivial
theorem tw4165790412136227996 : True := trivial
theorem tw14796466759834985688 : True := trivial
theorem tw15497661553127988876 : True := trivial
theorem tw17077556265617763461 : True := trivial
theorem tw287953463805442953 : True := trivial
theorem tw18082960087717149048 : True := trivial
theorem tw13641276842611084372 : True := trivial
theorem tw16296045296908357068 : True := trivial
theorem tw2178297459488788415 : True := trivial
theorem tw5349575601355646691 : True := trivial
theorem tw15634491606577235227 : True := trivial
theorem tw9066284286234938028 : True := trivial
theorem tw784398760468123197 : True := trivial
theorem tw9975181697760793316 : True := trivial
theorem tw11770469803825795671 : True := trivial
theorem tw17991338915595048482 : True := trivial
theorem tw10839328974574783820 : True := trivial
theorem tw16411105437429705778 : True := trivial
theorem tw14034749128076333794 : True := trivial
theorem tw894293814215726450 : True := trivial
theorem tw4342166259165428731 : True := trivial
theorem tw14770283161045097591 : True := trivial
theorem tw3346300567738965901 : True := trivial
theorem tw16458778090612460845 : True := trivial
theorem tw4138712885557812425 : True := trivial
theorem tw9692451679640996561 : True := trivial
theorem tw1032806430365585057 : True := trivial
theorem tw5431761495553067338 : True := trivial
theorem tw13885481864787924635 : True := trivial
theorem tw12547205235520848157 : True := trivial
theorem tw18387602337420547971 : True := trivial
theorem tw14494392074041754049 : True := trivial
theorem tw184109092140524464 : True := trivial
theorem tw5259670123300763311 : True := trivial
theorem tw13173953176059320894 : True := trivial
theorem tw10641679957159494722 : True := trivial
theorem tw4805121325565480861 : True := trivial
theorem tw15269477773102711175 : True := trivial
theorem tw5199378702035508070 : True := trivial
theorem tw7583361797143035481 : True := trivial
theorem tw7594733957135259274 : True := trivial
theorem tw8969666812645054929 : True := trivial
theorem tw16812556049665050751 : True := trivial
theorem tw2004851998574643105 : True := trivial
theorem tw10537673889148795442 : True := trivial
theorem tw3478098221232404132 : True := trivial
theorem tw9737704806258200022 : True := trivial
theorem tw9682968219774366136 : True := trivial
theorem tw1997245202593158238 : True := trivial
theorem tw1844252562645717656 : True := trivial
theorem tw14862638758293518560 : True := trivial
theorem tw5187476859576588484 : True := trivial
theorem tw4404362665658109794 : True := trivial
theorem tw12105075769771151389 : True := trivial
theorem tw14686114952348353161 : True := trivial
theorem tw12720663109933585296 : True := trivial
theorem tw14709961176115566585 : True := trivial
theorem tw8049364896188105909 : True := trivial
theorem tw11134116362224637597 : True := trivial
theorem tw528899951709188059 : True := trivial
theorem tw2768448108237772671 : True := trivial
theorem tw10333585162951555573 : True := trivial
theorem tw6625520778555774003 : True := trivial
theorem tw13773941932760650156 : True := trivial
theorem tw3164621254812658374 : True := trivial
theorem tw3711333801907052188 : True := trivial
theorem tw10258431832482955130 : True := trivial
theorem tw17387803853529143798 : True := trivial
theorem tw6297831515979172713 : True := trivial
theorem tw1185821097190935351 : True := trivial
theorem tw13835059390127151383 : True := trivial
theorem tw878548036586651445 : True := trivial
theorem tw7397108872174062380 : True := trivial
theorem tw13654157990673767877 : True := trivial
theorem tw9067625242651149439 : True := trivial
theorem tw5662677546921600111 : True := trivial
theorem tw7131243232575803443 : True := trivial
theorem tw1278997397397079238 : True := trivial
theorem tw6247160349519630638 : True := trivial
theorem tw8537118501473363645 : True := trivial
theorem tw10235349419275428445 : True := trivial
theorem tw10846596127677701517 : True := trivial
theorem tw9742219500613340104 : True := trivial
theorem tw16553639232099535485 : True := trivial
theorem tw17451920746369404459 : True := trivial
theorem tw4236675917750172274 : True := trivial
theorem tw1522902708820007941 : True := trivial
theorem tw3629402028279173542 : True := trivial
theorem tw15302533832303206438 : True := trivial
theorem tw9024173839606250710 : True := trivial
theorem tw12583223921717832979 : True := trivial
theorem tw14335522994430918167 : True := trivial
theorem tw5752283001943419084 : True := trivial
theorem tw3401442852723564626 : True := trivial
theorem tw8391930699093479420 : True := trivial
theorem tw1160126461688753340 : True := trivial
theorem tw1018310751268799256 : True := trivial
theorem tw1227797993934631154 : True := trivial
theorem tw2063730947956414473 : True := trivial
theorem tw18281916986834578911 : True := trivial
theorem tw12912090543813028240 : True := trivial
theorem tw1414195041970273359 : True := trivial
theorem tw5064859121799532366 : True := trivial
theorem tw8390796636664021986 : True := trivial
theorem tw16391149070413599466 : True := trivial
theorem tw14090035439101026066 : True := trivial
theorem tw17913983800624654662 : True := trivial
theorem tw850867165285691355 : True := trivial
theorem tw5939096883103575651 : True := trivial
theorem tw1611805702501203265 : True := trivial
theorem tw4226381863981156011 : True := trivial
theorem tw6858262963819299635 : True := trivial
theorem tw11666119320715049941 : True := trivial
theorem tw12841291647406549345 : True := trivial
theorem tw10720412031275971366 : True := trivial
theorem tw4073646420389663107 : True := trivial
theorem tw13327173259200879543 : True := trivial
theorem tw3547690081164798138 : True := trivial
theorem tw12852361645675268350 : True := trivial
theorem tw3317009500180893566 : True := trivial
theorem tw17568468548376071432 : True := trivial
theorem tw14264278104472202191 : True := trivial
theorem tw17608095966979205617 : True := trivial
theorem tw7225363897497395482 : True := trivial
theorem tw12098105937667295319 : True := trivial
theorem tw2775634517219711725 : True := trivial
theorem tw6966082240930333268 : True := trivial
theorem tw12316999836275076236 : True := trivial
theorem tw17511189667028884901 : True := trivial
theorem tw3421315259385582252 : True := trivial
theorem tw8789614466353668053 : True := trivial
theorem tw10737196677255601395 : True := trivial
theorem tw3973031380670585671 : True := trivial
theorem tw395497470746846795 : True := trivial
theorem tw16097323941429745458 : True := trivial
theorem tw6063450963774356663 : True := trivial
theorem tw9145306678877691832 : True := trivial
theorem tw2594783220810001445 : True := trivial
theorem tw8555652873995715188 : True := trivial
theorem tw14771354244398738174 : True := trivial
theorem tw16509658057562859340 : True := trivial
theorem tw2016272186479591946 : True := trivial
theorem tw13563346441931654480 : True := trivial
theorem tw9856995163103570859 : True := trivial
theorem tw8541321552504496669 : True := trivial
theorem tw15813340749330819700 : True := trivial
theorem tw1077391450414186309 : True := trivial
theorem tw135633961076593199 : True := trivial
theorem tw16538375063724003436 : True := trivial
theorem tw16319708190308125645 : True := trivial
theorem tw8584843663846142937 : True := trivial
theorem tw7079820612302156625 : True := trivial
theorem tw14953222795588707884 : True := trivial
theorem tw3936820447545014440 : True := trivial
theorem tw9135928181779915743 : True := trivial
theorem tw11055285978442556627 : True := trivial
theorem tw565210481615265802 : True := trivial
theorem tw9703280404855013137 : True := trivial
theorem tw12203786836192695688 : True := trivial
theorem tw13981708175263299360 : True := trivial
theorem tw1440798984673730257 : True := trivial
theorem tw11620214599688959629 : True := trivial
theorem tw9229182075048618322 : True := trivial
theorem tw5643372935380447377 : True := trivial
theorem tw4460019308874663089 : True := trivial
theorem tw18013707319464428824 : True := trivial
theorem tw3819092134837942385 : True := trivial
theorem tw14584335043545555326 : True := trivial
theorem tw9558174017873517950 : True := trivial
theorem tw14522650604763724169 : True := trivial
theorem tw7235835151015192215 : True := trivial
theorem tw12204699306508388632 : True := trivial
theorem tw13653053712072388485 : True := trivial
theorem tw11415166089849496693 : True := trivial
theorem tw7718479153973489549 : True := trivial
theorem tw1009495203823033868 : True := trivial
theorem tw16567165881026773780 : True := trivial
theorem tw6394188112622052202 : True := trivial
theorem tw4295861759449735931 : True := trivial
theorem tw1256299900219804969 : True := trivial
theorem tw3236055593221085060 : True := trivial
theorem tw1693430700877196341 : True := trivial
theorem tw14869931677947284765 : True := trivial
theorem tw6553613292635197080 : True := trivial
theorem tw14622376643663122172 : True := trivial
theorem tw10294845428280115134 : True := trivial
theorem tw3766528062960241444 : True := trivial
theorem tw3907584430519695353 : True := trivial
theorem tw2320344489168614247 : True := trivial
theorem tw12209001291889841700 : True := trivial
theorem tw7673301192104783709 : True := trivial
theorem tw6496700471769750458 : True := trivial
theorem tw16840572433949504002 : True := trivial
theorem tw12246585304520279746 : True := trivial
theorem tw6879908097304048753 : True := trivial
theorem tw5291565852182467389 : True := trivial
theorem tw13401598833007492563 : True := trivial
theorem tw8829801275665053289 : True := trivial
theorem tw11296615735066758613 : True := trivial
theorem tw11479167420528254386 : True := trivial
theorem tw8467969140259405924 : True := trivial
theorem tw16093408948133260259 : True := trivial
theorem tw7337925767617232743 : True := trivial
theorem tw14149671922311488283 : True := trivial
theorem tw9725409726571163332 : True := trivial
theorem tw15968278381655692219 : True := trivial
theorem tw12553789574901340173 : True := trivial
theorem tw24569797125519841 : True := trivial
theorem tw9618107536918425074 : True := trivial
theorem tw4690657932429323345 : True := trivial
theorem tw7639939206023917106 : True := trivial
theorem tw9079887965239234775 : True := trivial
theorem tw2247382855546185206 : True := trivial
theorem tw12955350785688785906 : True := trivial
theorem tw17916227557374018369 : True := trivial
theorem tw827693293301340529 : True := trivial
theorem tw4263930395819993223 : True := trivial
theorem tw11309181875819971488 : True := trivial
theorem tw17909347726582828082 : True := trivial
theorem tw7310410160653093076 : True := trivial
theorem tw8327425962738199410 : True := trivial
theorem tw4753339943054606236 : True := trivial
theorem tw11924416232688863072 : True := trivial
theorem tw16840557890281813312 : True := trivial
theorem tw7226748874793419052 : True := trivial
theorem tw7819316531907197847 : True := trivial
theorem tw17754237624769922753 : True := trivial
theorem tw2380062952813500353 : True := trivial
theorem tw5091001912990365019 : True := trivial
theorem tw9750871348571057311 : True := trivial
theorem tw4946487146576175406 : True := trivial
theorem tw3987215151407867630 : True := trivial
theorem tw8874622154411753936 : True := trivial
theorem tw4809200866363183241 : True := trivial
theorem tw12882010638148361942 : True := trivial
theorem tw13793384783104765432 : True := trivial
theorem tw13994609317546460684 : True := trivial
theorem tw14394015724338461868 : True := trivial
theorem tw6733293280772553253 : True := trivial
theorem tw9171118546669121898 : True := trivial
theorem tw15174553629801056995 : True := trivial
theorem tw10155644572206264256 : True := trivial
theorem tw13897163053222540209 : True := trivial
theorem tw10483533366289799338 : True := trivial
theorem tw17241193138428792651 : True := trivial
theorem tw10236413156551881077 : True := trivial
theorem tw8173652367969682599 : True := trivial
theorem tw1914874298113713028 : True := trivial
theorem tw9592063506017483905 : True := trivial
theorem tw7969440502999993023 : True := trivial
theorem tw13451762561201737057 : True := trivial
theorem tw5185443961744210101 : True := trivial
theorem tw12968301232591065646 : True := trivial
theorem tw3664073532522765001 : True := trivial
theorem tw7514265443350371351 : True := trivial
theorem tw16906601092222531502 : True := trivial
theorem tw6894155675472415500 : True := trivial
theorem tw3965868043912405203 : True := trivial
theorem tw8844093074266088347 : True := trivial
theorem tw12656149977107528163 : True := trivial
theorem tw2811163002019198376 : True := trivial
theorem tw5696634035576287674 : True := trivial
theorem tw17277000404336862194 : True := trivial
end PySem.W.Fast
set_option maxRecDepth 100000 in
set_option maxHeartbeats 0 in
theorem PySem.Challenge.cw_neverwait_k12_whole_distances_holds : PySem.Challenge.rw_neverwait_k12_whole_distances.Holds := by
  w_on; o_law; k_head; (case hw => w_witness2)
  k_fill
  refine K12.walk (l := PySem.Challenge.rw_neverwait_k12_whole_distances) (Pt := _) rfl rfl (fun w h Y => PySem.W.km_in_of Y) (fun w h Y => PySem.W.km_tabs_of Y) ?cd ?kt ?F
  case F =>
    intro w mg fa h KX G hmg
    refine' K12.all_mk (Pt := _) KX G hmg ?aC ?a_BeatError ?a_NoHouse ?a_NoBerth ?a_NoHanding ?a_NoNet ?a_NoPlan ?a_NoRanks ?a_NoRow ?a_NoShape ?a_NoStand ?a_NoText ?a_NoTie ?a_TooMany ?a_whole ?l_whole ?d_whole ?k_whole ?a_within ?l_within ?d_within ?k_within ?a_house ?l_house ?d_house ?k_house ?a_row ?l_row ?d_row ?k_row ?a_unl ?l_unl ?d_unl ?k_unl ?a_tie ?l_tie ?d_tie ?k_tie ?a_cties ?l_cties ?d_cties ?k_cties ?a_bal ?l_bal ?d_bal ?k_bal ?a_outs ?l_outs ?d_outs ?k_outs ?a_dist ?l_dist ?d_dist ?k_dist ?a_reach ?l_reach ?d_reach ?k_reach ?a_pot ?l_pot ?d_pot ?k_pot ?a_digit ?l_digit ?d_digit ?k_digit ?a_some ?l_some ?d_some ?k_some ?a_round ?l_round ?d_round ?k_round ?a_tree ?l_tree ?d_tree ?k_tree ?a_net ?l_net ?d_net ?k_net ?a_leads ?l_leads ?d_leads ?k_leads ?a_fars ?l_fars ?d_fars ?k_fars ?a_lwhole ?l_lwhole ?d_lwhole ?k_lwhole ?a_rowIs ?l_rowIs ?d_rowIs ?k_rowIs ?a_tells ?l_tells ?d_tells ?k_tells ?a_asked ?l_asked ?d_asked ?k_asked ?a_refused ?l_refused ?d_refused ?k_refused ?a_refuses ?l_refuses ?d_refuses ?k_refuses ?a_emptied ?l_emptied ?d_emptied ?k_emptied ?a_law ?l_law ?d_law ?k_law ?a_m_init ?i_m_init ?l_m_init ?d_m_init ?k_m_init ?a_m_check ?i_m_check ?l_m_check ?d_m_check ?k_m_check ?a_m_out ?i_m_out ?l_m_out ?d_m_out ?k_m_out ?a_m_far ?i_m_far ?l_m_far ?d_m_far ?k_m_far ?a_m_span ?i_m_span ?l_m_span ?d_m_span ?k_m_span ?a_m_good ?i_m_good ?l_m_good ?d_m_good ?k_m_good ?pg ?q_hd ?po ?sa ?mk ?kc ?nH ?nT ?nO ?nD ?z_isinstance ?z_int ?z_bool ?z_tuple ?z_list ?z_str ?z_set ?z_len ?z_range ?z_sorted ?z_any ?z_max ?z_min ?z_ValueError ?z_all ?g_FEWEST_HOUSES ?g_MOST_HOUSES ?g_MOST_TIES_OUT ?e_BeatError ?e_NoHouse ?kA ?kH ?kV ?kS ?q_outs
    (case aC => k_is)
    (case a_BeatError => k_is)
    (case a_NoHouse => k_is)
    (case a_NoBerth => k_is)
    (case a_NoHanding => k_is)
    (case a_NoNet => k_is)
    (case a_NoPlan => k_is)
    (case a_NoRanks => k_is)
    (case a_NoRow => k_is)
    (case a_NoShape => k_is)
    (case a_NoStand => k_is)
    (case a_NoText => k_is)
    (case a_NoTie => k_is)
    (case a_TooMany => k_is)
    (case a_whole => k_is)
    (case l_whole => k_is)
    (case d_whole => k_is)
    (case k_whole => k_is)
    (case a_within => k_is)
    (case l_within => k_is)
    (case d_within => k_is)
    (case k_within => k_is)
    (case a_house => k_is)
    (case l_house => k_is)
    (case d_house => k_is)
    (case k_house => k_is)
    (case a_row => k_is)
    (case l_row => k_is)
    (case d_row => k_is)
    (case k_row => k_is)
    (case a_unl => k_is)
    (case l_unl => k_is)
    (case d_unl => k_is)
    (case k_unl => k_is)
    (case a_tie => k_is)
    (case l_tie => k_is)
    (case d_tie => k_is)
    (case k_tie => k_is)
    (case a_cties => k_is)
    (case l_cties => k_is)
    (case d_cties => k_is)
    (case k_cties => k_is)
    (case a_bal => k_is)
    (case l_bal => k_is)
    (case d_bal => k_is)
    (case k_bal => k_is)
    (case a_outs => k_is)
    (case l_outs => k_is)
    (case d_outs => k_is)
    (case k_outs => k_is)
    (case a_dist => k_is)
    (case l_dist => k_is)
    (case d_dist => k_is)
    (case k_dist => k_is)
    (case a_reach => k_is)
    (case l_reach => k_is)
    (case d_reach => k_is)
    (case k_reach => k_is)
    (case a_pot => k_is)
    (case l_pot => k_is)
    (case d_pot => k_is)
    (case k_pot => k_is)
    (case a_digit => k_is)
    (case l_digit => k_is)
    (case d_digit => k_is)
    (case k_digit => k_is)
    (case a_some => k_is)
    (case l_some => k_is)
    (case d_some => k_is)
    (case k_some => k_is)
    (case a_round => k_is)
    (case l_round => k_is)
    (case d_round => k_is)
    (case k_round => k_is)
    (case a_tree => k_is)
    (case l_tree => k_is)
    (case d_tree => k_is)
    (case k_tree => k_is)
    (case a_net => k_is)
    (case l_net => k_is)
    (case d_net => k_is)
    (case k_net => k_is)
    (case a_leads => k_is)
    (case l_leads => k_is)
    (case d_leads => k_is)
    (case k_leads => k_is)
    (case a_fars => k_is)
    (case l_fars => k_is)
    (case d_fars => k_is)
    (case k_fars => k_is)
    (case a_lwhole => k_is)
    (case l_lwhole => k_is)
    (case d_lwhole => k_is)
    (case k_lwhole => k_is)
    (case a_rowIs => k_is)
    (case l_rowIs => k_is)
    (case d_rowIs => k_is)
    (case k_rowIs => k_is)
    (case a_tells => k_is)
    (case l_tells => k_is)
    (case d_tells => k_is)
    (case k_tells => k_is)
    (case a_asked => k_is)
    (case l_asked => k_is)
    (case d_asked => k_is)
    (case k_asked => k_is)
    (case a_refused => k_is)
    (case l_refused => k_is)
    (case d_refused => k_is)
    (case k_refused => k_is)
    (case a_refuses => k_is)
    (case l_refuses => k_is)
    (case d_refuses => k_is)
    (case k_refuses => k_is)
    (case a_emptied => k_is)
    (case l_emptied => k_is)
    (case d_emptied => k_is)
    (case k_emptied => k_is)
    (case a_law => k_is)
    (case l_law => k_is)
    (case d_law => k_is)
    (case k_law => k_is)
    (case a_m_init => k_is)
    (case i_m_init => k_is)
    (case l_m_init => k_is)
    (case d_m_init => k_is)
    (case k_m_init => k_is)
    (case a_m_check => k_is)
    (case i_m_check => k_is)
    (case l_m_check => k_is)
    (case d_m_check => k_is)
    (case k_m_check => k_is)
    (case a_m_out => k_is)
    (case i_m_out => k_is)
    (case l_m_out => k_is)
    (case d_m_out => k_is)
    (case k_m_out => k_is)
    (case a_m_far => k_is)
    (case i_m_far => k_is)
    (case l_m_far => k_is)
    (case d_m_far => k_is)
    (case k_m_far => k_is)
    (case a_m_span => k_is)
    (case i_m_span => k_is)
    (case l_m_span => k_is)
    (case d_m_span => k_is)
    (case k_m_span => k_is)
    (case a_m_good => k_is)
    (case i_m_good => k_is)
    (case l_m_good => k_is)
    (case d_m_good => k_is)
    (case k_m_good => k_is)
    (case pg => k_is)
    (case q_hd => k_is)
    (case po => k_is)
    (case sa => k_is)
    (case mk => k_is)
    (case kc => k_is)
    (case nH => k_is)
    (case nT => k_is)
    (case nO => k_is)
    (case nD => k_is)
    (case z_isinstance => k_is)
    (case z_int => k_is)
    (case z_bool => k_is)
    (case z_tuple => k_is)
    (case z_list => k_is)
    (case z_str => k_is)
    (case z_set => k_is)
    (case z_len => k_is)
    (case z_range => k_is)
    (case z_sorted => k_is)
    (case z_any => k_is)
    (case z_max => k_is)
    (case z_min => k_is)
    (case z_ValueError => k_is)
    (case z_all => k_is)
    (case g_FEWEST_HOUSES => k_is)
    (case g_MOST_HOUSES => k_is)
    (case g_MOST_TIES_OUT => k_is)
    (case e_BeatError => exact ⟨by kernel_rfl, by k_is, by k_is, by k_is, by k_is, by k_is, by k_is, by kernel_rfl⟩)
    (case e_NoHouse => exact ⟨by kernel_rfl, by k_is, by k_is, by k_is, by k_is, by k_is, by k_is, by kernel_rfl⟩)
    (case kA => kernel_rfl)
    (case kH => kernel_rfl)
    (case kV => kernel_rfl)
    (case kS => kernel_rfl)
    (case q_outs => kernel_rfl)
  case kt => intro w; kernel_rfl
  case cd => intro w; kernel_rfl
