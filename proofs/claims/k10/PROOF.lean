import PyProof.Rows.All
import Wide.All
import OpenK.AllK
import Wide.FinOn
import Lean
import PyProof.EqAt
import PyProof.EqKinds
import PyProof.TupleCall
import PySem.Challenge.RW_rowlay_k10_whole_deeds
set_option Elab.async false
set_option linter.all false
set_option maxRecDepth 100000
namespace L2
open PySem PySem.Spec PyProof.Rows
abbrev Key := Sum Int Str
def keyIs : Key → Value → Bool
  | .inl k, v => Value.isInt k v
  | .inr x, v => Value.isStrOf x v
def keyH (w : World) : Key → Int
  | .inl k => hashInt k
  | .inr x => hashStr w x
theorem keyIs_shape : ∀ {k : Key} {v : Value}, keyIs k v = true → (∃ i t, k = Sum.inl i ∧ v = Value.int i t) ∨ (∃ x t, k = Sum.inr x ∧ v = Value.str x t)
  | .inl i, v, h => by
    obtain ⟨t, e⟩ := Value.isInt_shape (k := i) (v := v) h
    exact .inl ⟨i, t, rfl, e⟩
  | .inr x, v, h => by
    obtain ⟨t, e⟩ := Value.isStrOf_shape (x := x) (v := v) h
    exact .inr ⟨x, t, rfl, e⟩
theorem keyIs_int (i : Int) (t : Tok) : keyIs (.inl i) (.int i t) = true := by simp [keyIs, Value.isInt]
theorem keyIs_str (x : Str) (t : Tok) : keyIs (.inr x) (.str x t) = true := by simp [keyIs, Value.isStrOf]
theorem key_ll (a b : Int) : decide ((Sum.inl a : Key) = Sum.inl b) = (a == b) := by
  by_cases e : a = b
  · subst e; simp
  · have h : ¬ (Sum.inl a : Key) = Sum.inl b := fun q => e (Sum.inl.inj q)
    rw [decide_eq_false h]
    exact (beq_eq_false_iff_ne.mpr e).symm
theorem key_rr (a b : Str) : decide ((Sum.inr a : Key) = Sum.inr b) = decide (a = b) := by
  by_cases e : a = b
  · subst e; simp
  · have h : ¬ (Sum.inr a : Key) = Sum.inr b := fun q => e (Sum.inr.inj q)
    rw [decide_eq_false h, decide_eq_false e]
theorem key_lr (a : Int) (b : Str) : decide ((Sum.inl a : Key) = Sum.inr b) = false := decide_eq_false (fun q => nomatch q)
theorem key_rl (a : Str) (b : Int) : decide ((Sum.inr a : Key) = Sum.inl b) = false := decide_eq_false (fun q => nomatch q)
def mixKind (prog : Program) (w : World) : PySem.KeyKind prog w Key where
  is := keyIs
  hash := keyH w
  inj := fun v a b ha hb => by
    rcases keyIs_shape ha with ⟨i, t, rfl, rfl⟩ | ⟨x, t, rfl, rfl⟩
    · rcases keyIs_shape hb with ⟨j, u, rfl, e⟩ | ⟨y, u, rfl, e⟩
      · injection e with e1 _; rw [e1]
      · exact nomatch e
    · rcases keyIs_shape hb with ⟨j, u, rfl, e⟩ | ⟨y, u, rfl, e⟩
      · exact nomatch e
      · injection e with e1 _; rw [e1]
  byValue := fun k v h => by
    rcases keyIs_shape h with ⟨i, t, rfl, rfl⟩ | ⟨x, t, rfl, rfl⟩ <;> rfl
  pyHash := fun hv h => by
    rcases keyIs_shape hv with ⟨i, t, rfl, rfl⟩ | ⟨x, t, rfl, rfl⟩
    · exact wpAny_pyHash_int h
    · exact wpAny_pyHash_str h
  eqBool := fun hu hv h => by
    rcases keyIs_shape hu with ⟨i, t, rfl, rfl⟩ | ⟨x, t, rfl, rfl⟩
    · rcases keyIs_shape hv with ⟨j, u, rfl, rfl⟩ | ⟨y, u, rfl, rfl⟩
      · rw [key_ll] at h; exact wpAny_eqBool_int h
      · rw [key_lr] at h; exact SeqAt.EqAt.int_str i t y u _ _ _ _ h
    · rcases keyIs_shape hv with ⟨j, u, rfl, rfl⟩ | ⟨y, u, rfl, rfl⟩
      · rw [key_rl] at h; exact SeqAt.EqAt.str_int x t j u _ _ _ _ h
      · rw [key_rr] at h; exact wpAny_eqBool_str h
  «strs» := fun k x t v h => by
    rcases keyIs_shape h with ⟨i, u, rfl, e⟩ | ⟨y, u, rfl, e⟩
    · exact nomatch e
    · injection e with e1 _
      subst e1
      cases v <;> rfl
theorem mixKind_int (prog : Program) (w : World) (i : Int) (t : Tok) : (mixKind prog w).is (.inl i) (.int i t) = true := keyIs_int i t
theorem mixKind_str (prog : Program) (w : World) (x : Str) (t : Tok) : (mixKind prog w).is (.inr x) (.str x t) = true := keyIs_str x t
end L2
namespace L2
open PySem PySem.Spec PyProof.Rows
inductive V where
  | non | bl (b : Bool) | int (i : Int) | str (x : Str) | byt (b : Array UInt8) | flt (b : UInt64) | ref (a : Addr) | ty (n : String)
  deriving DecidableEq
def RelV : V → Value → Prop
  | .non, u => u = Value.none
  | .bl b, u => u = Value.bool b
  | .int i, u => ∃ t, u = Value.int i t
  | .str x, u => ∃ t, u = Value.str x t
  | .byt b, u => ∃ t, u = Value.bytes b t
  | .flt b, u => ∃ t, u = Value.float b t
  | .ref a, u => u = Value.ref a
  | .ty n, u => u = Value.type n
abbrev Vals : List V → List Value → Prop := Paired RelV
theorem Vals.length {xs : List V} {us : List Value} (r : Vals xs us) : xs.length = us.length := Paired.length r
theorem Vals.get : ∀ {xs : List V} {us : List Value} {i : Nat} {x : V}, Vals xs us → xs[i]? = some x → ∃ u, us[i]? = some u ∧ RelV x u
  | _, _, _, _, .nil, e => by simp at e
  | _, _, 0, _, .cons r _, e => by simp at e; subst e; exact ⟨_, rfl, r⟩
  | _, _, i + 1, x, .cons _ t, e => by
    obtain ⟨u, h1, h2⟩ := Vals.get (i := i) (x := x) t (by simpa using e)
    exact ⟨u, by simpa using h1, h2⟩
theorem Vals.set {x : V} {u : Value} (r : RelV x u) : ∀ {xs : List V} {us : List Value} (i : Nat), Vals xs us → Vals (xs.set i x) (us.set i u)
  | _, _, _, .nil => .nil
  | _, _, 0, .cons _ t => .cons r t
  | _, _, i + 1, .cons q t => .cons q (Vals.set r i t)
theorem Vals.append : ∀ {xs ys : List V} {us ws : List Value}, Vals xs us → Vals ys ws → Vals (xs ++ ys) (us ++ ws)
  | _, _, _, _, .nil, s => s
  | _, _, _, _, .cons r t, s => .cons r (Vals.append t s)
theorem Vals.take : ∀ {xs : List V} {us : List Value} (n : Nat), Vals xs us → Vals (xs.take n) (us.take n)
  | _, _, 0, _ => .nil
  | _, _, _ + 1, .nil => .nil
  | _, _, n + 1, .cons r t => .cons r (Vals.take n t)
theorem Vals.drop : ∀ {xs : List V} {us : List Value} (n : Nat), Vals xs us → Vals (xs.drop n) (us.drop n)
  | _, _, 0, r => r
  | _, _, _ + 1, .nil => .nil
  | _, _, n + 1, .cons _ t => Vals.drop n t
theorem Vals.none_of : ∀ {xs : List V} {us : List Value} {i : Nat}, Vals xs us → xs[i]? = none → us[i]? = none := fun {xs us i} r e => by
  have h1 := r.length
  have h2 : xs.length ≤ i := List.getElem?_eq_none_iff.mp e
  exact List.getElem?_eq_none_iff.mpr (by omega)
def RelO : Option V → Option Value → Prop
  | some v, some u => RelV v u
  | none, none => True
  | _, _ => False
def KV {κ : Type} : List (κ × V) → List (κ × Value) → Prop := Paired fun (p : κ × V) (q : κ × Value) => p.1 = q.1 ∧ RelV p.2 q.2
def kV : Key → V
  | .inl i => .int i
  | .inr x => .str x
inductive HO where
  /-- a list -/
  | lst (xs : List V)
  /-- a tuple (never changes) -/
  | tup (xs : List V)
  /-- a dict whose keys are ints and texts; one whose keys are tuples of ints and texts (the empty one is both) -/
  | dK (kvs : List (Key × V)) | dT (kvs : List (List Key × V))
  /-- a set of ints: its members, its size -/
  | set (S : Int → Bool) (n : Nat)
  /-- an instance of the class at C, its dict at dx, its attributes -/
  | ins (C dx : Addr) (fs : List (Str × V))
  /-- the dict of the instance at x -/
  | own (x : Addr)
  /-- the dict of an exception -/
  | xd (fs : List (Str × V))
  /-- a bound method, f of x -/
  | met (f x : Addr)
  /-- a range object lo, lo + 1, .. below hi -/
  | rng (lo hi : Int)
  /-- a thing that is known to the object (the script; a dict while a loop walks it): read, never written while it is so -/
  | frz (o : Obj) (u : HO)
  /-- a code object's table -/
  | tbl (ps : Array Value)
  /-- any other thing, by what is true of its one object (a def of one's own: SetO a S n := HO.ext fun h => ..) -/
  | ext (φ : Heap → Prop)
abbrev Hp := Addr → Option HO
def upd (H : Hp) (a : Addr) (o : HO) : Hp := fun b => if b = a then some o else H b
theorem upd_same {H : Hp} {a : Addr} {o : HO} : upd H a o a = some o := by unfold upd; rw [if_pos rfl]
theorem upd_ne {H : Hp} {a b : Addr} {o : HO} (h : b ≠ a) : upd H a o b = H b := by unfold upd; rw [if_neg h]
theorem ne_of {H : Hp} {a b : Addr} {o u : HO} (h : H a = some o) (h' : H b = some u) (d : o ≠ u) : a ≠ b := by
  intro e; subst e; rw [h] at h'; exact d (Option.some.inj h')
theorem ne_of_none {H : Hp} {a b : Addr} {o : HO} (h : H a = some o) (h' : H b = none) : a ≠ b := by
  intro e; subst e; rw [h] at h'; cases h'
section
variable (P : Program) (w : World)
def ObjOk (H : Hp) (h : Heap) (a : Addr) : HO → Prop
  | .lst xs => xs.length ≤ sizeLine ∧ ∃ (its : List Value) (n : Nat), Vals xs its ∧ h.get? a = some { cls := .type "list", data := .seq its.toArray n }
  | .tup xs => xs.length ≤ sizeLine ∧ ∃ its : List Value, Vals xs its ∧ IsTup h a its.toArray
  | .dK kvs => kvs.length ≤ sizeLine ∧ (a == sysModules) = false ∧ ∃ vs, KV kvs vs ∧ h.DictOf (mixKind P w) a vs
  | .dT kvs => kvs.length ≤ sizeLine ∧ (a == sysModules) = false ∧ ∃ xs : List (List Key × Addr × Value),
      Paired (fun (p : List Key × V) (q : List Key × Addr × Value) => p.1 = q.1 ∧ H q.2.1 = some (.tup (p.1.map kV)) ∧ RelV p.2 q.2.2) kvs xs ∧
      ∃ o es ep, h.get? a = some o ∧ o.ExactDict ∧ o.data = .dict es ep ∧ es.toList = xs.map (entryOfKey (tupleKind (mixKind P w))) ∧ (xs.map (·.1)).Nodup
  | .set S n => h.SetOf (intKind P w) a S n
  | .ins C dx fs => H dx = some (.own a) ∧ fs.length ≤ 1000 ∧ dx ≠ a ∧ h.get? a = some (PySem.W.instObj C dx) ∧
      ∃ mA, h.Ns1 dx mA ∧ (∀ f, RelO (fs.lookup f) (mA f)) ∧ PySem.Within mA (fs.map (·.1))
  | .own _ => ∃ o, h.get? a = some o
  | .xd fs => ∃ mA, h.Ns1 a mA ∧ ∀ f, RelO (fs.lookup f) (mA f)
  | .rng lo hi => ∃ t u v, h.get? a = some { cls := .type "range", data := .fields #[.int lo t, .int hi u, .int 1 v] }
  | .frz o u => h.get? a = some o ∧ ObjOk H h a u
  | .tbl ps => h.get? a = some { cls := .none, data := .fields ps }
  | .met f x => h.get? a = some (PySem.W.methodObj (.ref f) (.ref x))
  | .ext φ => φ h ∧ (∃ o, h.get? a = some o) ∧ ∀ h1 h2 : Heap, φ h1 → (∀ o, h1.get? a = some o → h2.get? a = some o) → φ h2
def HOk (H : Hp) (h : Heap) : Prop := ∀ a o, H a = some o → ObjOk P w H h a o
end
section
variable {P : Program} {w : World} {H H' : Hp} {h h' : Heap} {a : Addr} {o : HO}
theorem ObjOk.lt (x : ObjOk P w H h a o) : a < h.objs.size := by
  cases o with
  | lst xs => obtain ⟨_, _, _, _, e⟩ := x; exact Heap.lt_size e
  | tup xs => obtain ⟨_, _, _, p⟩ := x; exact p.lt
  | dK kvs => obtain ⟨_, _, _, _, o, _, _, e, _⟩ := x; exact Heap.lt_size e
  | dT kvs => obtain ⟨_, _, _, _, o, _, _, e, _⟩ := x; exact Heap.lt_size e
  | set S n => obtain ⟨o, _, _, _, e, _⟩ := x; exact Heap.lt_size e
  | ins C dx fs => obtain ⟨_, _, _, e, _⟩ := x; exact Heap.lt_size e
  | own y => obtain ⟨_, e⟩ := x; exact Heap.lt_size e
  | xd fs => obtain ⟨_, ⟨_, _, _, e, _⟩, _⟩ := x; exact Heap.lt_size e
  | rng lo hi => obtain ⟨_, _, _, e⟩ := x; exact Heap.lt_size e
  | frz ob u => obtain ⟨e, _⟩ := x; exact Heap.lt_size e
  | tbl ps => exact Heap.lt_size (show h.get? a = some _ from x)
  | met f y => exact Heap.lt_size (show h.get? a = some _ from x)
  | ext φ => obtain ⟨_, ⟨_, e⟩, _⟩ := x; exact Heap.lt_size e
theorem Paired.mapP {α β : Type} {F G : α → β → Prop} : ∀ {l₁ : List α} {l₂ : List β}, Paired F l₁ l₂ → (∀ a b, F a b → G a b) → Paired G l₁ l₂
  | _, _, .nil, _ => .nil
  | _, _, .cons r t, f => .cons (f _ _ r) (Paired.mapP t f)
theorem ObjOk.stay (x : ObjOk P w H h a o) (k : ∀ b u, (b = a ∨ H b = some (.own a)) → h.get? b = some u → h'.get? b = some u)
    (ho : ∀ b, H b = some (.own a) → H' b = some (.own a)) (ht : ∀ b xs, H b = some (.tup xs) → H' b = some (.tup xs)) : ObjOk P w H' h' a o := by
  induction o with
  | lst xs => obtain ⟨z, its, n, r, e⟩ := x; exact ⟨z, its, n, r, k _ _ (.inl rfl) e⟩
  | tup xs => obtain ⟨z, its, r, ob, e, c⟩ := x; exact ⟨z, its, r, ob, k _ _ (.inl rfl) e, c⟩
  | dK kvs => obtain ⟨z, y, vs, r, ob, es, ep, e, c⟩ := x; exact ⟨z, y, vs, r, ob, es, ep, k _ _ (.inl rfl) e, c⟩
  | dT kvs =>
    obtain ⟨z, y, xs, r, ob, es, ep, e, c⟩ := x
    exact ⟨z, y, xs, Paired.mapP r fun p q z => ⟨z.1, ht _ _ z.2.1, z.2.2⟩, ob, es, ep, k _ _ (.inl rfl) e, c⟩
  | set S n => obtain ⟨ob, es, ep, t, e, c⟩ := x; exact ⟨ob, es, ep, t, k _ _ (.inl rfl) e, c⟩
  | ins C dx fs =>
    obtain ⟨d, z, ne, e, mA, ⟨od, es, ep, e2, c⟩, r⟩ := x
    exact ⟨ho _ d, z, ne, k _ _ (.inl rfl) e, mA, ⟨od, es, ep, k _ _ (.inr d) e2, c⟩, r⟩
  | own y => obtain ⟨ob, e⟩ := x; exact ⟨ob, k _ _ (.inl rfl) e⟩
  | xd fs => obtain ⟨mA, ⟨od, es, ep, e, c⟩, r⟩ := x; exact ⟨mA, ⟨od, es, ep, k _ _ (.inl rfl) e, c⟩, r⟩
  | rng lo hi => obtain ⟨t, u, v, e⟩ := x; exact ⟨t, u, v, k _ _ (.inl rfl) e⟩
  | frz ob u ih => obtain ⟨e, q⟩ := x; exact ⟨k _ _ (.inl rfl) e, ih q⟩
  | tbl ps =>
    have e : h.get? a = some { cls := .none, data := .fields ps } := x
    show h'.get? a = some { cls := .none, data := .fields ps }
    exact k a _ (.inl rfl) e
  | met f y =>
    have e : h.get? a = some (PySem.W.methodObj (.ref f) (.ref y)) := x
    show h'.get? a = some (PySem.W.methodObj (.ref f) (.ref y))
    exact k a _ (.inl rfl) e
  | ext φ => obtain ⟨p, ⟨o, e⟩, st⟩ := x; exact ⟨st _ _ p fun o q => k _ _ (.inl rfl) q, ⟨o, k _ _ (.inl rfl) e⟩, st⟩
theorem HOk.lt (x : HOk P w H h) (e : H a = some o) : a < h.objs.size := (x a o e).lt
theorem HOk.fresh (x : HOk P w H h) (e : h.objs.size ≤ a) : H a = none := by
  cases q : H a with
  | none => rfl
  | some u => exact absurd (Nat.lt_of_lt_of_le (x.lt q) e) (Nat.lt_irrefl _)
theorem HOk.kept (x : HOk P w H h) (k : ∀ b u, h.get? b = some u → h'.get? b = some u) : HOk P w H h' := fun a o e =>
  (x a o e).stay (fun b u _ q => k b u q) (fun _ q => q) fun _ _ q => q
theorem HOk.laid (x : HOk P w H h) (k : ∀ b u, h.get? b = some u → h'.get? b = some u) (hp : h.objs.size ≤ a) (new : ObjOk P w (upd H a o) h' a o) : HOk P w (upd H a o) h' := fun b u e => by
  have hn := x.fresh hp
  by_cases hb : b = a
  · subst hb; rw [upd_same] at e; cases e; exact new
  · rw [upd_ne hb] at e
    exact (x b u e).stay (fun c v _ q => k c v q) (fun c q => by rw [upd_ne (ne_of_none q hn)]; exact q) fun c xs q => by rw [upd_ne (ne_of_none q hn)]; exact q
end
def Rd (H : Hp) (a : Addr) (u : HO) : Prop := H a = some u ∨ ∃ o, H a = some (.frz o u)
theorem Rd.of {H : Hp} {a : Addr} {u : HO} (h : H a = some u) : Rd H a u := .inl h
theorem Rd.ok {P : Program} {w : World} {H : Hp} {h : Heap} {a : Addr} {u : HO} (r : Rd H a u) (x : HOk P w H h) : ObjOk P w H h a u := by
  rcases r with r | ⟨o, r⟩
  · exact x a u r
  · obtain ⟨_, q⟩ := x a _ r
    exact q
def Mut : Option HO → Prop
  | some (.lst _) => True
  | some (.dK _) => True
  | some (.dT _) => True
  | some (.set _ _) => True
  | some (.ins _ _ _) => True
  | some (.ext _) => True
  | _ => False
section
variable {P : Program} {w : World} {H : Hp} {h h' : Heap} {x e : Addr} {o' : HO}
theorem HOk.write (ok : HOk P w H h) (mu : Mut (H x)) (he : e = x ∨ H e = some (.own x)) (k : ∀ b u, b ≠ e → h.get? b = some u → h'.get? b = some u) (heo : ∃ u, h'.get? e = some u)
    (new : ObjOk P w (upd H x o') h' x o') : HOk P w (upd H x o') h' := fun b u q => by
  have nown : ∀ c y, H c = some (.own y) → c ≠ x := fun c y r z => by subst z; rw [r] at mu; exact mu
  have ntup : ∀ c xs, H c = some (.tup xs) → c ≠ x := fun c xs r z => by subst z; rw [r] at mu; exact mu
  by_cases hb : b = x
  · subst hb; rw [upd_same] at q; cases q; exact new
  · rw [upd_ne hb] at q
    by_cases hbe : b = e
    · have q' : H b = some (.own x) := by
        rcases he with z | z
        · exact absurd (hbe.trans z) hb
        · rw [hbe]; exact z
      rw [q] at q'; cases q'
      obtain ⟨v, hv⟩ := heo
      exact ⟨v, by rw [hbe]; exact hv⟩
    · refine (ok b u q).stay (fun c v hc r => k c v ?_ r) (fun c r => by rw [upd_ne (nown c b r)]; exact r) fun c xs r => by rw [upd_ne (ntup c xs r)]; exact r
      rcases hc with rfl | hc
      · exact hbe
      · rintro rfl
        rcases he with z | z
        · exact nown c b hc z
        · rw [hc] at z; cases z; exact hb rfl
end
structure Un (fs ex : List Addr) (H H' : Hp) (h h' : Heap) : Prop where
  keep : ∀ b o, h.get? b = some o → H b = none → b ∉ fs → b ∉ ex → h'.get? b = some o
  slot : ∀ b o, h.get? b = some o → H b = none → b ∈ fs → b ∉ ex → ∃ sl, h'.get? b = some { o with slots := sl }
  free : ∀ b o, h.get? b = some o → H b = none → b ∉ ex → H' b = none
  there : ∀ b o, h.get? b = some o → b ∉ ex → ∃ o', h'.get? b = some o'
  tups : ∀ b xs, H b = some (.tup xs) → H' b = some (.tup xs)
  frzs : ∀ b o u, H b = some (.frz o u) → H' b = some (.frz o u)
  tbls : ∀ b ps, H b = some (.tbl ps) → ∃ more, H' b = some (.tbl (ps ++ more))
section
variable {fs fs' ex ex' : List Addr} {H H1 H2 : Hp} {h h1 h2 h' : Heap} {a x e : Addr} {o : HO}
theorem Un.any (u : Un fs ex H H1 h h1) {b : Addr} {ob : Obj} (q : h.get? b = some ob) (n : H b = none) (hx : b ∉ ex) : ∃ sl, h1.get? b = some { ob with slots := sl } := by
  by_cases hb : b ∈ fs
  · exact u.slot b ob q n hb hx
  · exact ⟨ob.slots, u.keep b ob q n hb hx⟩
theorem Un.trans (a : Un fs ex H H1 h h1) (b : Un fs ex H1 H2 h1 h2) : Un fs ex H H2 h h2 where
  keep := fun c ob q n hc hx => b.keep c ob (a.keep c ob q n hc hx) (a.free c ob q n hx) hc hx
  slot := fun c ob q n hc hx => by
    obtain ⟨sl, e1⟩ := a.slot c ob q n hc hx
    obtain ⟨sl', e2⟩ := b.slot c _ e1 (a.free c ob q n hx) hc hx
    exact ⟨sl', e2⟩
  free := fun c ob q n hx => by
    obtain ⟨o', e1⟩ := a.there c ob q hx
    exact b.free c o' e1 (a.free c ob q n hx) hx
  there := fun c ob q hx => by
    obtain ⟨o', e1⟩ := a.there c ob q hx
    exact b.there c o' e1 hx
  tups := fun c xs q => b.tups c xs (a.tups c xs q)
  frzs := fun c ob xs q => b.frzs c ob xs (a.frzs c ob xs q)
  tbls := fun c ps q => by
    obtain ⟨m1, e1⟩ := a.tbls c ps q
    obtain ⟨m2, e2⟩ := b.tbls c _ e1
    exact ⟨m1 ++ m2, by rw [e2, Array.append_assoc]⟩
theorem Un.kept (k : ∀ b u, h.get? b = some u → h'.get? b = some u) : Un fs ex H H h h' :=
  ⟨fun b ob q _ _ _ => k b ob q, fun b ob q _ _ _ => ⟨ob.slots, k b ob q⟩, fun _ _ _ n _ => n, fun b ob q _ => ⟨ob, k b ob q⟩, fun _ _ q => q, fun _ _ _ q => q, fun _ ps q => ⟨#[], by rw [q]; simp⟩⟩
theorem Un.refl : Un fs ex H H h h := Un.kept fun _ _ q => q
theorem Un.laid (k : ∀ b u, h.get? b = some u → h'.get? b = some u) (hp : h.objs.size ≤ a) (hn : H a = none) : Un fs ex H (upd H a o) h h' where
  keep := fun b u q _ _ _ => k b u q
  slot := fun b u q _ _ _ => ⟨u.slots, k b u q⟩
  free := fun b u q n _ => by rw [upd_ne (Nat.ne_of_lt (Nat.lt_of_lt_of_le (Heap.lt_size q) hp))]; exact n
  there := fun b u q _ => ⟨u, k b u q⟩
  tups := fun b xs q => by rw [upd_ne (ne_of_none q hn)]; exact q
  frzs := fun b u xs q => by rw [upd_ne (ne_of_none q hn)]; exact q
  tbls := fun b ps q => ⟨#[], by rw [upd_ne (ne_of_none q hn), q]; simp⟩
theorem Un.write (mu : Mut (H x)) (he : e = x ∨ H e = some (.own x)) (k : ∀ b u, b ≠ e → h.get? b = some u → h'.get? b = some u) (heo : ∃ u, h'.get? e = some u) : Un fs ex H (upd H x o) h h' := by
  have hx : ∀ b, H b = none → b ≠ x := fun b n z => by subst z; rw [n] at mu; exact mu
  have hb : ∀ b, H b = none → b ≠ e := fun b n z => by
    subst z
    rcases he with r | r
    · exact hx b n r
    · rw [n] at r; cases r
  have hm : ∀ b u, H b = some u → ¬ Mut (some u) → b ≠ x := fun b u q nm z => by subst z; rw [q] at mu; exact nm mu
  refine ⟨fun b u q n _ _ => k b u (hb b n) q, fun b u q n _ _ => ⟨u.slots, k b u (hb b n) q⟩, fun b u q n _ => by rw [upd_ne (hx b n)]; exact n, fun b u q _ => ?_,
    fun b xs q => by rw [upd_ne (hm b _ q fun z => z)]; exact q, fun b u xs q => by rw [upd_ne (hm b _ q fun z => z)]; exact q, fun b ps q => ⟨#[], by rw [upd_ne (hm b _ q fun z => z), q]; simp⟩⟩
  by_cases hbe : b = e
  · subst hbe; exact heo
  · exact ⟨u, k b u hbe q⟩
theorem Un.mono (u : Un fs ex H H1 h h1) (hs : ∀ b ∈ fs, b ∈ fs') (hx : ∀ b ∈ ex, b ∈ ex') : Un fs' ex' H H1 h h1 :=
  ⟨fun b ob q n hb he => u.keep b ob q n (fun z => hb (hs b z)) fun z => he (hx b z), fun _ _ q n _ he => u.any q n fun z => he (hx _ z), fun b ob q n he => u.free b ob q n fun z => he (hx b z), fun b ob q he => u.there b ob q fun z => he (hx b z), u.tups, u.frzs, u.tbls⟩
end
def trk (h : Heap) (H : Hp) : List Addr := (List.range h.objs.size).filter fun a => (H a).isSome
def hidT (h : Heap) (H : Hp) : Heap := PySem.W.hideAll h (trk h H)
theorem hidT_size (h : Heap) (H : Hp) : (hidT h H).objs.size = h.objs.size := PySem.W.hideAll_size _ _
theorem hidT_get {h : Heap} {H : Hp} {b : Addr} {o : Obj} (e : h.get? b = some o) (n : H b = none) : (hidT h H).get? b = some o :=
  PySem.W.hideAll_get _ e fun hm => by
    have q : (H b).isSome = true := (List.mem_filter.mp hm).2
    rw [n] at q; simp at q
theorem of_hidT {h : Heap} {H : Hp} {b : Addr} {o : Obj} (e : (hidT h H).get? b = some o) : h.get? b = some o ∧ H b = none := by
  have e' : h.get? b = some o := PySem.W.of_hideAll (trk h H) e
  refine ⟨e', ?_⟩
  cases q : H b with
  | none => rfl
  | some x =>
    have hm : b ∈ trk h H := List.mem_filter.mpr ⟨List.mem_range.mpr (Heap.lt_size e'), by simp [q]⟩
    have z : (hidT h H).get? b = none := PySem.W.hideAll_none (trk h H) hm
    rw [z] at e; cases e
def allNews (g h : Heap) (L : Addr) : List (Addr × Obj) := (List.range h.objs.size).filterMap fun a => if a = L ∨ (g.get? a).isSome = true then none else (h.get? a).map fun o => (a, o)
def rest (g h : Heap) (L d : Addr) : List (Addr × Obj) := (allNews g h L).filter fun p => decide (p.1 ≠ d)
end L2
namespace L2
open PySem PySem.Spec PyProof.Rows
structure Mod (K : PySem.W.Frag) (mg : Str → Option Value) (base : Heap) : Prop where
  kin : K.In base
  glob : base.Ns mainGlobals mg
  blt : ∃ mb, base.Ns builtinsNs mb ∧ ∀ x : Str, x ≠ "__name__" → mb x = bootBuiltins x
  nolimit : base.NoLimit
structure Cx where
  prog : Program
  w : World
  K : PySem.W.Frag
  mg : Str → Option Value
  base : Heap
  A : Around
  N : List Str
  s₀ : Shared
  H₀ : Hp
  env : Env
  outer : List Env
  stack : List Env
  ex : List Addr
  fn : Str → Bool
  calm : Bool
  pn : List (Addr × Obj)
  xe : Value → Shared → Prop
def frs (l : List Env) : List Addr := l.filterMap (·.frame)
abbrev Cx.fs (X : Cx) : List Addr := frs X.outer
def Vis (sc : Scope) (x : Str) : Prop := sc.names.lookup x = some .local ∨ sc.names.lookup x = some .cell ∨ sc.names.lookup x = some .free
def Loc (sc : Scope) (x : Str) : Prop := sc.names.lookup x = some .local ∨ sc.names.lookup x = some .cell
def Look (env : Env) (h : Heap) (m : Str → Option Value) (x : Str) (u : Value) : Prop :=
  (env.kindOf x = some .local ∧ m x = some u) ∨ ((env.kindOf x = some .cell ∨ env.kindOf x = some .free) ∧ ∃ c, env.cells.lookup x = some c ∧ h.IsCell c (some u))
structure Cx.Ok (X : Cx) : Prop where
  mod : Mod X.K X.mg X.base
  kind : X.env.scope.kind = .function
  glob : X.env.globals = mainGlobals
  blt : X.env.builtins = builtinsNs
  above : X.s₀.heap.objs.size ≤ X.env.locals
  inj : ∀ x y c, X.env.cells.lookup x = some c → X.env.cells.lookup y = some c → x = y
  has : ∀ x, (X.env.kindOf x = some .cell ∨ X.env.kindOf x = some .free) → ∃ c, X.env.cells.lookup x = some c
  cab : ∀ x c, X.fn x = true → X.env.cells.lookup x = some c → X.s₀.heap.objs.size ≤ c
  hd : X.calm = true → X.A.handled = none
  frames : X.A.frames = some X.stack
  stk : X.stack = X.outer ∨ (X.stack = X.env :: X.outer ∧ X.env.frame = some X.env.locals)
  exf : ∀ b ∈ X.ex, b ≠ X.env.locals ∧ ∀ x c, X.env.cells.lookup x = some c → c ≠ b
  bs : ∀ b o, X.base.get? b = some o → X.s₀.heap.get? b = some o ∧ X.H₀ b = none
  bsz : X.base.objs.size ≤ X.s₀.heap.objs.size
  noex : ∀ b o, X.base.get? b = some o → b ∉ X.ex
  exfs : ∀ b ∈ X.ex, b ∉ X.fs
  funs : X.s₀.heap.FunFrames X.base X.outer
  frf : ∀ b ∈ X.fs, X.H₀ b = none
structure Inv (X : Cx) (pins : List (Addr × Obj)) (σ : List (Option V)) (H : Hp) (s : Shared) : Prop where
  ok : X.Ok
  os : s.os = X.s₀.os
  bare : AllBare s.gens
  base : Un X.fs X.ex X.H₀ H X.s₀.heap s.heap
  loc : ∃ m, s.heap.Ns X.env.locals m ∧ ∀ (i : Nat) (x : Str) (v : V), X.N[i]? = some x → σ[i]? = some (some v) → Vis X.env.scope x → ∃ u, RelV v u ∧ Look X.env s.heap m x u
  cell : ∀ x c, X.env.cells.lookup x = some c → ∃ v, s.heap.IsCell c v
  free : H X.env.locals = none
  freeC : ∀ x c, X.env.cells.lookup x = some c → H c = none
  pin : ∀ p ∈ X.pn ++ pins, s.heap.get? p.1 = some p.2 ∧ H p.1 = none ∧ p.1 ≠ X.env.locals ∧ p.1 ∉ X.fs ∧ ∀ v, p.2.data ≠ .cell v
  hok : HOk X.prog X.w H s.heap
  len : σ.length = X.N.length
section
variable {X : Cx} {pins : List (Addr × Obj)} {σ : List (Option V)} {H H' : Hp} {s : Shared} {h' : Heap}
theorem Cx.Ok.nofr (ok : X.Ok) {b : Addr} {o : Obj} (e : X.base.get? b = some o) : b ∉ X.fs := fun hb => by
  have := (ok.funs.mem hb).1
  rw [e] at this; cases this
theorem Inv.bs (I : Inv X pins σ H s) : ∀ b o, X.base.get? b = some o → s.heap.get? b = some o ∧ H b = none := fun b o e =>
  ⟨I.base.keep b o (I.ok.bs b o e).1 (I.ok.bs b o e).2 (I.ok.nofr e) (I.ok.noex b o e), I.base.free b o (I.ok.bs b o e).1 (I.ok.bs b o e).2 (I.ok.noex b o e)⟩
theorem Inv.bk (I : Inv X pins σ H s) : ∀ b o, X.base.get? b = some o → s.heap.get? b = some o := fun b o e => (I.bs b o e).1
theorem Inv.mod (I : Inv X pins σ H s) : Mod X.K X.mg X.base := I.ok.mod
theorem Inv.kIn (I : Inv X pins σ H s) : X.K.In s.heap := I.ok.mod.kin.keeps I.bk
theorem Inv.nolimit (I : Inv X pins σ H s) : s.heap.NoLimit := I.ok.mod.nolimit.keeps I.bk
theorem Inv.fr (I : Inv X pins σ H s) : ∃ m, Fr X.base X.env.locals s.heap m :=
  let ⟨m, hn, _⟩ := I.loc
  ⟨m, hn, I.bk, Nat.le_trans I.ok.bsz I.ok.above⟩
theorem Inv.lt (I : Inv X pins σ H s) : X.env.locals < s.heap.objs.size := let ⟨_, hn, _⟩ := I.loc; hn.lt
theorem Inv.sz (I : Inv X pins σ H s) : X.s₀.heap.objs.size ≤ s.heap.objs.size := Nat.le_trans I.ok.above (Nat.le_of_lt I.lt)
theorem Inv.nofs (I : Inv X pins σ H s) {a : Addr} (h : s.heap.objs.size ≤ a) : a ∉ X.fs := fun hb => by
  obtain ⟨_, o, ho, _⟩ := I.ok.funs.mem hb
  exact absurd (Nat.lt_of_lt_of_le (Heap.lt_size ho) (Nat.le_trans I.sz h)) (Nat.lt_irrefl _)
theorem Inv.cne (I : Inv X pins σ H s) : ∀ x c, X.env.cells.lookup x = some c → c ≠ X.env.locals := fun x c e z => by
  obtain ⟨v, o, ho, hd⟩ := I.cell x c e
  obtain ⟨m, ⟨o', es, ep, ho', hd', _⟩, _⟩ := I.loc
  rw [z, ho'] at ho; cases ho; rw [hd'] at hd; cases hd
theorem Inv.funs (I : Inv X pins σ H s) : s.heap.FunFrames X.base X.outer := by
  have all : ∀ (l : List Env), (∀ b ∈ frs l, b ∈ X.fs) → X.s₀.heap.FunFrames X.base l → s.heap.FunFrames X.base l := by
    intro l
    induction l with
    | nil => intro _ _; trivial
    | cons env r ih =>
      intro hs hl
      obtain ⟨hk, ⟨L, o, hf, hn, ho, hd⟩, hr⟩ := hl
      have hL : L ∈ X.fs := hs L (by unfold frs; rw [List.filterMap_cons, hf]; exact List.mem_cons_self)
      obtain ⟨sl, e⟩ := I.base.slot L o ho (I.ok.frf L hL) hL fun z => I.ok.exfs L z hL
      exact ⟨hk, ⟨L, _, hf, hn, e, hd⟩, ih (fun b hb => hs b (by unfold frs; rw [List.filterMap_cons, hf]; exact List.mem_cons_of_mem _ hb)) hr⟩
  exact all X.outer (fun _ hb => hb) I.ok.funs
theorem Inv.stack (I : Inv X pins σ H s) : s.heap.FunFrames X.base X.stack := by
  rcases I.ok.stk with e | ⟨e, hf⟩
  · rw [e]; exact I.funs
  · rw [e]
    obtain ⟨m, hn, _⟩ := I.loc
    refine .cons (by rw [I.ok.kind]; decide) hf hn ?_ I.funs
    exact Heap.get?_none_of_le (Nat.le_trans I.ok.bsz I.ok.above)
theorem Inv.stkSub (I : Inv X pins σ H s) : ∀ b ∈ frs X.stack, b ∈ X.env.locals :: X.fs := fun b hb => by
  rcases I.ok.stk with e | ⟨e, hf⟩
  · rw [e] at hb; exact List.mem_cons_of_mem _ hb
  · rw [e] at hb
    unfold frs at hb
    rw [List.filterMap_cons, hf] at hb
    exact hb
theorem Inv.stkFree (I : Inv X pins σ H s) : ∀ b ∈ frs X.stack, H b = none := fun b hb => by
  rcases List.mem_cons.mp (I.stkSub b hb) with e | hb
  · rw [e]; exact I.free
  · obtain ⟨_, o, ho, _⟩ := I.ok.funs.mem hb
    exact I.base.free b o ho (I.ok.frf b hb) fun z => I.ok.exfs b z hb
theorem Inv.step {g' : Array GenState} {t' : Nat} {d' : Drawn} {ch : List Addr} (I : Inv X pins σ H s)
    (hch : ∀ b ∈ ch, (b ∈ X.ex ∨ X.s₀.heap.objs.size ≤ b) ∧ b ≠ X.env.locals ∧ (∀ x c, X.env.cells.lookup x = some c → c ≠ b) ∧ ∀ p ∈ X.pn ++ pins, p.1 ≠ b)
    (keep : ∀ b o, b ≠ X.env.locals → b ∉ X.fs → b ∉ ch → s.heap.get? b = some o → H b = none → h'.get? b = some o)
    (slot : ∀ b o, b ≠ X.env.locals → b ∈ X.fs → b ∉ ch → s.heap.get? b = some o → H b = none → ∃ sl, h'.get? b = some { o with slots := sl }) (free : ∀ b o, b ∉ ch → s.heap.get? b = some o → H b = none → H' b = none)
    (there : ∀ b o, b ∉ ch → s.heap.get? b = some o → ∃ o', h'.get? b = some o')
    (tups : ∀ b xs, H b = some (.tup xs) → H' b = some (.tup xs)) (frzs : ∀ b o u, H b = some (.frz o u) → H' b = some (.frz o u)) (tbls : ∀ b ps, H b = some (.tbl ps) → ∃ more, H' b = some (.tbl (ps ++ more)))
    (ns : ∀ m, s.heap.Ns X.env.locals m → h'.Ns X.env.locals m) (hok : HOk X.prog X.w H' h') (hg : AllBare g') :
    Inv X pins σ H' { s with heap := h', gens := g', drawn := d', toks := t' } := by
  have neL : ∀ b o, X.s₀.heap.get? b = some o → b ≠ X.env.locals := fun b o e => Nat.ne_of_lt (Nat.lt_of_lt_of_le (Heap.lt_size e) I.ok.above)
  have neC : ∀ b o, X.s₀.heap.get? b = some o → b ∉ X.ex → b ∉ ch := fun b o e hx hb => by
    rcases (hch b hb).1 with z | z
    · exact hx z
    · exact absurd (Nat.lt_of_lt_of_le (Heap.lt_size e) z) (Nat.lt_irrefl _)
  have cellK : ∀ x c, X.env.cells.lookup x = some c → ∀ v, s.heap.IsCell c v → h'.IsCell c v := fun x c e v ⟨o, ho, hd⟩ => by
    have nch : c ∉ ch := fun z => (hch c z).2.2.1 x c e rfl
    by_cases hc : c ∈ X.fs
    · obtain ⟨sl, q⟩ := slot c o (I.cne x c e) hc nch ho (I.freeC x c e)
      exact ⟨_, q, hd⟩
    · exact ⟨o, keep c o (I.cne x c e) hc nch ho (I.freeC x c e), hd⟩
  refine ⟨I.ok, I.os, hg, ⟨fun b o e n hb hx => ?_, fun b o e n hb hx => ?_, fun b o e n hx => ?_, fun b o e hx => ?_, fun b xs e => tups b xs (I.base.tups b xs e), fun b o xs e => frzs b o xs (I.base.frzs b o xs e), fun b ps e => ?_⟩, ?_, fun x c e => ?_, ?_, fun x c e => ?_, fun p hp => ?_, hok, I.len⟩
  · exact keep b o (neL b o e) hb (neC b o e hx) (I.base.keep b o e n hb hx) (I.base.free b o e n hx)
  · obtain ⟨sl, e1⟩ := I.base.slot b o e n hb hx
    obtain ⟨sl', e2⟩ := slot b _ (neL b o e) hb (neC b o e hx) e1 (I.base.free b o e n hx)
    exact ⟨sl', e2⟩
  · obtain ⟨o', e1⟩ := I.base.there b o e hx
    exact free b o' (neC b o e hx) e1 (I.base.free b o e n hx)
  · obtain ⟨o', e1⟩ := I.base.there b o e hx
    exact there b o' (neC b o e hx) e1
  · obtain ⟨m1, e1⟩ := I.base.tbls b ps e
    obtain ⟨m2, e2⟩ := tbls b _ e1
    exact ⟨m1 ++ m2, by rw [e2, Array.append_assoc]⟩
  · obtain ⟨m, hn, hl⟩ := I.loc
    refine ⟨m, ns m hn, fun i x v e1 e2 e3 => ?_⟩
    obtain ⟨u, r, l⟩ := hl i x v e1 e2 e3
    refine ⟨u, r, ?_⟩
    rcases l with l | ⟨k, c, e, z⟩
    · exact .inl l
    · exact .inr ⟨k, c, e, cellK x c e _ z⟩
  · obtain ⟨v, z⟩ := I.cell x c e
    exact ⟨v, cellK x c e v z⟩
  · obtain ⟨m, ⟨o, _, _, ho, _⟩, _⟩ := I.loc
    exact free _ o (fun z => (hch _ z).2.1 rfl) ho I.free
  · obtain ⟨v, o, ho, hd⟩ := I.cell x c e
    exact free c o (fun z => (hch c z).2.2.1 x c e rfl) ho (I.freeC x c e)
  · obtain ⟨e, n, ne, nf, d⟩ := I.pin p hp
    have nch : p.1 ∉ ch := fun z => (hch p.1 z).2.2.2 p hp rfl
    exact ⟨keep p.1 p.2 ne nf nch e n, free p.1 p.2 nch e n, ne, nf, d⟩
theorem Inv.un {t' : Nat} (I : Inv X pins σ H s) (u : Un X.fs [] H H' s.heap h') (hok : HOk X.prog X.w H' h') : Inv X pins σ H' { s with heap := h', toks := t' } := by
  obtain ⟨m, ⟨o, es, ep, ho, r⟩, _⟩ := id I.loc
  obtain ⟨sl, hL⟩ := u.any ho I.free (by simp)
  exact I.step (g' := s.gens) (d' := s.drawn) (ch := []) (fun _ z => nomatch z) (fun b o _ hb _ e n => u.keep b o e n hb (by simp)) (fun b o _ hb _ e n => u.slot b o e n hb (by simp)) (fun b o _ e n => u.free b o e n (by simp)) (fun b o _ e => u.there b o e (by simp)) u.tups u.frzs u.tbls (fun m' hm => by
    obtain ⟨o', es', ep', ho', r'⟩ := hm
    rw [ho] at ho'; cases ho'
    exact ⟨_, es', ep', hL, r'⟩) hok I.bare
theorem Inv.call {g' : Array GenState} {t' : Nat} {d' : Drawn} {ch : List Addr} (I : Inv X pins σ H s) (u : Un (frs X.stack) ch H H' s.heap h') (hok : HOk X.prog X.w H' h') (hg : AllBare g')
    (hch : ∀ b ∈ ch, (b ∈ X.ex ∨ X.s₀.heap.objs.size ≤ b) ∧ b ≠ X.env.locals ∧ (∀ x c, X.env.cells.lookup x = some c → c ≠ b) ∧ ∀ p ∈ X.pn ++ pins, p.1 ≠ b) :
    Inv X pins σ H' { s with heap := h', gens := g', drawn := d', toks := t' } := by
  obtain ⟨m, ⟨o, es, ep, ho, r⟩, _⟩ := id I.loc
  obtain ⟨sl, hL⟩ := u.any ho I.free fun z => (hch _ z).2.1 rfl
  exact I.step (ch := ch) hch (fun b o hL hb hc e n => u.keep b o e n (fun z => (List.mem_cons.mp (I.stkSub b z)).elim hL hb) hc) (fun b o _ _ hc e n => u.any e n hc) (fun b o hc e n => u.free b o e n hc) (fun b o hc e => u.there b o e hc) u.tups u.frzs u.tbls (fun m' hm => by
    obtain ⟨o', es', ep', ho', r'⟩ := hm
    rw [ho] at ho'; cases ho'
    exact ⟨_, es', ep', hL, r'⟩) hok hg
theorem Inv.turned {t' : Nat} {it : Addr} (I : Inv X pins σ H s) (k : ∀ b o, b ≠ it → s.heap.get? b = some o → h'.get? b = some o) (hn : H it = none) (hL : it ≠ X.env.locals)
    (h1 : it ∈ X.ex ∨ X.s₀.heap.objs.size ≤ it) (h2 : ∀ x c, X.env.cells.lookup x = some c → c ≠ it) (h3 : ∀ p ∈ X.pn ++ pins, p.1 ≠ it) : Inv X pins σ H { s with heap := h', toks := t' } := by
  have nit : ∀ b u, H b = some u → b ≠ it := fun b u e z => by rw [z, hn] at e; cases e
  refine I.step (g' := s.gens) (d' := s.drawn) (ch := [it]) (fun b hb => ?_) (fun b o _ _ hc e _ => k b o (fun z => hc (by simp [z])) e) (fun b o _ _ hc e _ => ⟨o.slots, k b o (fun z => hc (by simp [z])) e⟩) (fun _ _ _ _ n => n)
    (fun b o hc e => ⟨o, k b o (fun z => hc (by simp [z])) e⟩) (fun _ _ e => e) (fun _ _ _ e => e) (fun b ps e => ⟨#[], by rw [e]; simp⟩) (fun m hm => ?_) (fun b u e => ?_) I.bare
  · have e : b = it := by simpa using hb
    subst e
    exact ⟨h1, hL, h2, h3⟩
  · obtain ⟨o, es, ep, ho, r⟩ := hm
    exact ⟨o, es, ep, k _ o (Ne.symm hL) ho, r⟩
  · refine (I.hok b u e).stay (fun c v hc q => k c v ?_ q) (fun _ q => q) fun _ _ q => q
    rcases hc with z | z
    · rw [z]; exact nit b u e
    · exact nit c _ z
theorem Inv.tok (I : Inv X pins σ H s) (t : Nat) : Inv X pins σ H { s with toks := t } := I.un (h' := s.heap) (t' := t) Un.refl I.hok
theorem Inv.kept {t' : Nat} (I : Inv X pins σ H s) (k : ∀ b u, s.heap.get? b = some u → h'.get? b = some u) : Inv X pins σ H { s with heap := h', toks := t' } := I.un (Un.kept k) (I.hok.kept k)
theorem Inv.laid {a : Addr} {o : HO} {t' : Nat} (I : Inv X pins σ H s) (k : ∀ b u, s.heap.get? b = some u → h'.get? b = some u) (hp : s.heap.objs.size ≤ a) (new : ObjOk X.prog X.w (upd H a o) h' a o) :
    Inv X pins σ (upd H a o) { s with heap := h', toks := t' } := I.un (Un.laid k hp (I.hok.fresh hp)) (I.hok.laid k hp new)
theorem Inv.write {x e : Addr} {o : HO} {t' : Nat} (I : Inv X pins σ H s) (mu : Mut (H x)) (he : e = x ∨ H e = some (.own x)) (k : ∀ b u, b ≠ e → s.heap.get? b = some u → h'.get? b = some u) (heo : ∃ u, h'.get? e = some u)
    (new : ObjOk X.prog X.w (upd H x o) h' x o) : Inv X pins σ (upd H x o) { s with heap := h', toks := t' } := I.un (Un.write mu he k heo) (I.hok.write mu he k heo new)
theorem Inv.weak {σ' : List (Option V)} (I : Inv X pins σ H s) (hl : σ'.length = σ.length) (w : ∀ (i : Nat) v, σ'[i]? = some (some v) → σ[i]? = some (some v)) : Inv X pins σ' H s :=
  ⟨I.ok, I.os, I.bare, I.base, let ⟨m, hn, hl'⟩ := I.loc; ⟨m, hn, fun i x v e1 e2 e3 => hl' i x v e1 (w i v e2) e3⟩, I.cell, I.free, I.freeC, I.pin, I.hok, hl.trans I.len⟩
theorem Inv.pins_of {pins' : List (Addr × Obj)} (I : Inv X pins σ H s) (h : ∀ p ∈ pins', s.heap.get? p.1 = some p.2 ∧ H p.1 = none ∧ p.1 ≠ X.env.locals ∧ p.1 ∉ X.fs ∧ ∀ v, p.2.data ≠ .cell v) : Inv X pins' σ H s :=
  ⟨I.ok, I.os, I.bare, I.base, I.loc, I.cell, I.free, I.freeC, fun p hp => (List.mem_append.mp hp).elim (fun z => I.pin p (List.mem_append_left _ z)) (h p), I.hok, I.len⟩
theorem nodup_ix {N : List Str} (hN : N.Nodup) {i j : Nat} {x : Str} (a : N[i]? = some x) (b : N[j]? = some x) : i = j := by
  obtain ⟨h1, e1⟩ := List.getElem?_eq_some_iff.mp a
  obtain ⟨h2, e2⟩ := List.getElem?_eq_some_iff.mp b
  exact (List.getElem_inj hN).mp (e1.trans e2.symm)
theorem store_ok2 {M : Model} {A : Around} {E : Value → Shared → Prop} {i : Nat} {x : Str} {v : V} {u : Value} {Q : Unit → Shared → Prop} (I : Inv X pins σ H s) (hN : X.N.Nodup) (hi : X.N[i]? = some x) (hx : Loc X.env.scope x) (r : RelV v u)
    (h : ∀ s', Inv X pins (σ.set i (some v)) H s' → (∃ a, Heap.SameBut a s.heap s'.heap ∧ (a = X.env.locals ∨ X.env.cells.lookup x = some a)) → Q () s') (hf : X.fn x = true ∨ X.env.scope.names.lookup x = some .local := by first | exact .inl rfl | exact .inr rfl | assumption) : wpAny M A (storeName X.env x u) Q E s := by
  obtain ⟨m, hn, hl⟩ := id I.loc
  have hcls : (X.env.scope.kind == .class || (X.env.scope.kind == .module && X.env.locals != X.env.globals)) = false := by rw [I.ok.kind]; rfl
  have hiσ : i < σ.length := by rw [I.len]; exact (List.getElem?_eq_some_iff.mp hi).1
  have cne := I.cne
  have tracked : ∀ {a : Addr} {h' : Heap}, (∃ o, s.heap.get? a = some o ∧ H a = none) → Heap.SameBut a s.heap h' → HOk X.prog X.w H h' := fun {a h'} ha hs b ob e => by
    obtain ⟨_, _, hfree⟩ := ha
    refine (I.hok b ob e).stay (fun c w' hc q => (hs.2 c ?_).trans q) (fun _ q => q) fun _ _ q => q
    rintro rfl
    rcases hc with rfl | hc
    · rw [hfree] at e; cases e
    · rw [hfree] at hc; cases hc
  rcases hx with hk | hk
  · refine wpAny_storeName_local hk hn (fun h' hn' hs => ?_) hcls
    obtain ⟨oL, _, _, hoL, _⟩ := id hn
    refine h _ ⟨I.ok, I.os, I.bare, ⟨fun b o e n hb hx => ?_, fun b o e n hb hx => ?_, I.base.free, fun b o e hx => ?_, I.base.tups, I.base.frzs, I.base.tbls⟩, ⟨_, hn', fun j y v' e1 e2 e3 => ?_⟩, fun y c e => ?_, I.free, I.freeC, fun p hp => ?_, tracked ⟨oL, hoL, I.free⟩ hs, by simpa using I.len⟩ ⟨_, hs, .inl rfl⟩
    · exact (hs.2 b (Nat.ne_of_lt (Nat.lt_of_lt_of_le (Heap.lt_size e) I.ok.above))).trans (I.base.keep b o e n hb hx)
    · obtain ⟨sl, e1⟩ := I.base.slot b o e n hb hx
      exact ⟨sl, (hs.2 b (Nat.ne_of_lt (Nat.lt_of_lt_of_le (Heap.lt_size e) I.ok.above))).trans e1⟩
    · obtain ⟨o', e1⟩ := I.base.there b o e hx
      exact ⟨o', (hs.2 b (Nat.ne_of_lt (Nat.lt_of_lt_of_le (Heap.lt_size e) I.ok.above))).trans e1⟩
    · by_cases hj : j = i
      · subst hj
        rw [hi] at e1; cases e1
        rw [List.getElem?_set_self hiσ] at e2
        cases e2
        exact ⟨u, r, .inl ⟨hk, by simp⟩⟩
      · rw [List.getElem?_set_ne (Ne.symm hj)] at e2
        obtain ⟨u', r', q⟩ := hl j y v' e1 e2 e3
        refine ⟨u', r', ?_⟩
        rcases q with ⟨k, e⟩ | ⟨k, c, e, z⟩
        · refine .inl ⟨k, ?_⟩
          have : y ≠ x := fun e => hj (nodup_ix hN e1 (e ▸ hi))
          simp [this, e]
        · exact .inr ⟨k, c, e, z.sameBut hs (cne y c e)⟩
    · obtain ⟨w', z⟩ := I.cell y c e
      exact ⟨w', z.sameBut hs (cne y c e)⟩
    · obtain ⟨e, n, ne, nf, d⟩ := I.pin p hp
      exact ⟨(hs.2 p.1 ne).trans e, n, ne, nf, d⟩
  · have hfn : X.fn x = true := by
      rcases hf with z | z
      · exact z
      · rw [z] at hk; cases hk
    obtain ⟨c, hc⟩ := I.ok.has x (.inl hk)
    obtain ⟨w', z⟩ := I.cell x c hc
    refine wpAny_storeName_cell I.ok.kind hk hc z (fun h' hc' hs => ?_)
    obtain ⟨oc, hoc, hocd⟩ := id z
    refine h { s with heap := h' } ⟨I.ok, I.os, I.bare, ⟨fun b o e n hb hx => ?_, fun b o e n hb hx => ?_, I.base.free, fun b o e hx => ?_, I.base.tups, I.base.frzs, I.base.tbls⟩, ⟨m, hn.sameBut hs (Ne.symm (cne x c hc)), fun j y v' e1 e2 e3 => ?_⟩, fun y c' e => ?_, I.free, I.freeC, fun p hp => ?_, tracked ⟨oc, hoc, I.freeC x c hc⟩ hs, by simpa using I.len⟩ ⟨c, hs, .inr hc⟩
    · exact (hs.2 b (Nat.ne_of_lt (Nat.lt_of_lt_of_le (Heap.lt_size e) (I.ok.cab x c hfn hc)))).trans (I.base.keep b o e n hb hx)
    · obtain ⟨sl, e1⟩ := I.base.slot b o e n hb hx
      exact ⟨sl, (hs.2 b (Nat.ne_of_lt (Nat.lt_of_lt_of_le (Heap.lt_size e) (I.ok.cab x c hfn hc)))).trans e1⟩
    · obtain ⟨o', e1⟩ := I.base.there b o e hx
      exact ⟨o', (hs.2 b (Nat.ne_of_lt (Nat.lt_of_lt_of_le (Heap.lt_size e) (I.ok.cab x c hfn hc)))).trans e1⟩
    · by_cases hj : j = i
      · subst hj
        rw [hi] at e1; cases e1
        rw [List.getElem?_set_self hiσ] at e2
        cases e2
        exact ⟨u, r, .inr ⟨.inl hk, c, hc, hc'⟩⟩
      · rw [List.getElem?_set_ne (Ne.symm hj)] at e2
        obtain ⟨u', r', q⟩ := hl j y v' e1 e2 e3
        refine ⟨u', r', ?_⟩
        rcases q with q | ⟨k, c', e, z'⟩
        · exact .inl q
        · refine .inr ⟨k, c', e, z'.sameBut hs ?_⟩
          rintro rfl
          exact hj (nodup_ix hN e1 (I.ok.inj _ _ _ e hc ▸ hi))
    · by_cases hcc : c' = c
      · subst hcc; exact ⟨_, hc'⟩
      · obtain ⟨w2, z2⟩ := I.cell y c' e
        exact ⟨w2, z2.sameBut hs hcc⟩
    · obtain ⟨e, n, ne, nf, d⟩ := I.pin p hp
      refine ⟨(hs.2 p.1 ?_).trans e, n, ne, nf, d⟩
      intro q
      rw [q, hoc] at e
      have q' : oc = p.2 := Option.some.inj e
      exact d w' (by rw [← q']; exact hocd)
theorem store_ok {M : Model} {A : Around} {E : Value → Shared → Prop} {i : Nat} {x : Str} {v : V} {u : Value} {Q : Unit → Shared → Prop} (I : Inv X pins σ H s) (hN : X.N.Nodup) (hi : X.N[i]? = some x) (hx : Loc X.env.scope x) (r : RelV v u)
    (h : ∀ s', Inv X pins (σ.set i (some v)) H s' → Q () s') (hf : X.fn x = true ∨ X.env.scope.names.lookup x = some .local := by first | exact .inl rfl | exact .inr rfl | assumption) : wpAny M A (storeName X.env x u) Q E s :=
  store_ok2 I hN hi hx r (fun s' I' _ => h s' I') hf
theorem Inv.call' {s' : Shared} {ch : List Addr} (I : Inv X pins σ H s) (ho : s'.os = s.os) (u : Un (frs X.stack) ch H H' s.heap s'.heap) (hok : HOk X.prog X.w H' s'.heap) (hg : AllBare s'.gens)
    (hch : ∀ b ∈ ch, (b ∈ X.ex ∨ X.s₀.heap.objs.size ≤ b) ∧ b ≠ X.env.locals ∧ (∀ x c, X.env.cells.lookup x = some c → c ≠ b) ∧ ∀ p ∈ X.pn ++ pins, p.1 ≠ b) : Inv X pins σ H' s' := by
  obtain ⟨h', g', d', t', o'⟩ := s'
  have e : o' = s.os := ho
  subst e
  exact I.call (g' := g') (t' := t') (d' := d') u hok hg hch
end
abbrev XK := Value → Option Addr → Hp → Prop
abbrev St := List (Option V)
abbrev VK := V → Hp → Prop
abbrev TE := St → Hp → VK → Prop
abbrev TT := St → Hp → (Bool → Hp → Prop) → Prop
abbrev TA := St → Hp → (List V → Hp → Prop) → Prop
structure Ends where
  nx : St → Hp → Prop
  rt : VK
  bk : St → Hp → Prop := fun _ _ => False
  ct : St → Hp → Prop := fun _ _ => False
abbrev TS := Ends → St → Hp → Prop
def EP (X : Cx) (pins : List (Addr × Obj)) (σ : St) (Q : VK) (u : Value) (s' : Shared) : Prop := ∃ v H', Inv X pins σ H' s' ∧ RelV v u ∧ Q v H'
def TP (X : Cx) (pins : List (Addr × Obj)) (σ : St) (Q : Bool → Hp → Prop) (b : Bool) (s' : Shared) : Prop := ∃ H', Inv X pins σ H' s' ∧ Q b H'
def AP (X : Cx) (pins : List (Addr × Obj)) (σ : St) (Q : List V → Hp → Prop) (us : List Value) (s' : Shared) : Prop := ∃ vs H', Inv X pins σ H' s' ∧ Vals vs us ∧ Q vs H'
def SP (X : Cx) (pins : List (Addr × Obj)) (D : Ends) (f : Flow) (s' : Shared) : Prop :=
  match f with
  | .next => ∃ σ' H', Inv X pins σ' H' s' ∧ D.nx σ' H'
  | .brk => ∃ σ' H', Inv X pins σ' H' s' ∧ D.bk σ' H'
  | .cont => ∃ σ' H', Inv X pins σ' H' s' ∧ D.ct σ' H'
  | .ret u => ∃ v σ' H', Inv X pins σ' H' s' ∧ RelV v u ∧ D.rt v H'
def PE (X : Cx) (e : Expr) (t : TE) : Prop :=
  ∀ (pins : List (Addr × Obj)) (s : Shared) (σ : St) (H : Hp) (Q : VK), Inv X pins σ H s → t σ H Q → wpAny (model X.prog X.w) X.A (eval e X.env) (EP X pins σ Q) X.xe s
def PT (X : Cx) (e : Expr) (t : TT) : Prop :=
  ∀ (pins : List (Addr × Obj)) (s : Shared) (σ : St) (H : Hp) (Q : Bool → Hp → Prop), Inv X pins σ H s → t σ H Q → wpAny (model X.prog X.w) X.A (isTrue e X.env (eval e X.env)) (TP X pins σ Q) X.xe s
def PW (X : Cx) (e : Expr) (t : TT) : Prop :=
  ∀ (whole : Sem Value) (pins : List (Addr × Obj)) (s : Shared) (σ : St) (H : Hp) (Q : Bool → Hp → Prop), Inv X pins σ H s → t σ H Q → wpAny (model X.prog X.w) X.A (isTrue e X.env whole) (TP X pins σ Q) X.xe s
theorem PW.pt {X : Cx} {e : Expr} {t : TT} (h : PW X e t) : PT X e t := h _
def PA (X : Cx) (es : List Expr) (t : TA) : Prop :=
  ∀ (pos : Pos) (pins : List (Addr × Obj)) (s : Shared) (σ : St) (H : Hp) (Q : List V → Hp → Prop), Inv X pins σ H s → t σ H Q → wpAny (model X.prog X.w) X.A (spliced (backTo pos (starEach es X.env))) (AP X pins σ Q) X.xe s
def PS (X : Cx) (st : Stmt) (t : TS) : Prop :=
  ∀ (pins : List (Addr × Obj)) (s : Shared) (σ : St) (H : Hp) (D : Ends), Inv X pins σ H s → t D σ H → wpAny (model X.prog X.w) X.A (exec st X.env) (SP X pins D) X.xe s
def PSs (X : Cx) (st : List Stmt) (t : TS) : Prop :=
  ∀ (pins : List (Addr × Obj)) (s : Shared) (σ : St) (H : Hp) (D : Ends), Inv X pins σ H s → t D σ H → wpAny (model X.prog X.w) X.A (execs st X.env) (SP X pins D) X.xe s
theorem thn {α : Type} {t : Sem α} {Q Q' : α → Shared → Prop} {M : Model} {A : Around} {E : Value → Shared → Prop} {s : Shared} (h : wpAny M A t Q E s) (hQ : ∀ a s, Q a s → Q' a s) : wpAny M A t Q' E s := wpAny_mono h hQ fun _ _ x => x
end L2
namespace L2
open PySem PySem.Spec PyProof.Rows
section
variable {X : Cx}
def tVar (i : Nat) : TE := fun σ H Q => ∃ v, σ[i]? = some (some v) ∧ Q v H
def tC (v : V) : TE := fun _ H Q => Q v H
theorem pe_var {i : Nat} {x : Str} {pos : Pos} (hN : X.N[i]? = some x) (hv : Vis X.env.scope x) (hd : (x == ("__debug__" : Str)) = false := by decide) (hcd : (x == ("__classdict__" : Str)) = false := by decide) : PE X (.Name x pos) (tVar i) := by
  intro pins s σ H Q I h
  obtain ⟨v, e, h⟩ := h
  obtain ⟨m, hn, hl⟩ := I.loc
  obtain ⟨u, r, l⟩ := hl i x v hN e hv
  have fin : EP X pins σ Q u s := ⟨v, H, I, r, h⟩
  rcases l with ⟨hk, hm⟩ | ⟨hk, c, hc, hcell⟩
  · exact wpAny_Name (wpAny_loadName_local I.ok.kind hk hn hm fin) hd
  · rcases hk with hk | hk
    · exact wpAny_Name (wpAny_loadName_cell I.ok.kind hk hc hcell fin) hd
    · exact wpAny_Name (wpAny_loadName_free I.ok.kind hk hc hcell fin hcd) hd
theorem pe_int {i j pos} : PE X (.Constant (.int i) j pos) (tC (.int i)) := fun _ _ _ H _ I h => wpAny_Constant_int ⟨.int i, H, I.tok _, ⟨_, rfl⟩, h⟩
theorem pe_bl {b j pos} : PE X (.Constant (.bool b) j pos) (tC (.bl b)) := fun _ _ _ H _ I h => Constant_bool ⟨.bl b, H, I, rfl, h⟩
theorem pe_non {j pos} : PE X (.Constant .none j pos) (tC .non) := fun _ _ _ H _ I h => Constant_none ⟨.non, H, I, rfl, h⟩
theorem pe_str {x j pos} : PE X (.Constant (.str x) j pos) (tC (.str x)) := fun _ _ _ H _ I h => Calls.Constant_str ⟨.str x, H, I.tok _, ⟨_, rfl⟩, h⟩
def Gl (X : Cx) (x : Str) : Prop := X.env.kindOf x = some .globalImplicit
theorem ld_glob {E : Value → Shared → Prop} {pins : List (Addr × Obj)} {s : Shared} {σ : St} {H : Hp} {x : Str} {u : Value} {pos : Pos} {Q : Value → Shared → Prop} (I : Inv X pins σ H s) (hg : Gl X x) (hm : X.mg x = some u) (h : Q u s)
    (hd : (x == ("__debug__" : Str)) = false := by decide) : wpAny (model X.prog X.w) X.A (eval (.Name x pos) X.env) Q E s :=
  Calls.Name_function_global I.ok.kind hg (Calls.loadGlobal_global (by rw [I.ok.glob]; exact I.mod.glob.keeps I.bk) hm h) hd
theorem ld_blt {E : Value → Shared → Prop} {pins : List (Addr × Obj)} {s : Shared} {σ : St} {H : Hp} {x : Str} {u : Value} {pos : Pos} {Q : Value → Shared → Prop} (I : Inv X pins σ H s) (hg : Gl X x) (hm : X.mg x = none) (hv : bootBuiltins x = some u) (h : Q u s)
    (hn : x ≠ "__name__" := by decide) (hd : (x == ("__debug__" : Str)) = false := by decide) : wpAny (model X.prog X.w) X.A (eval (.Name x pos) X.env) Q E s := by
  obtain ⟨mb, h1, h2⟩ := I.mod.blt
  exact Calls.Name_function_global I.ok.kind hg (Calls.loadGlobal_builtin (by rw [I.ok.glob]; exact I.mod.glob.keeps I.bk) hm (by rw [I.ok.blt]; exact h1.keeps I.bk) ((h2 x hn).trans hv) h) hd
theorem pe_glob {x : Str} {v : V} {u : Value} {pos : Pos} (hg : Gl X x) (hm : X.mg x = some u) (r : RelV v u) (hd : (x == ("__debug__" : Str)) = false := by decide) : PE X (.Name x pos) (tC v) :=
  fun _ _ _ H _ I h => ld_glob I hg hm ⟨v, H, I, r, h⟩ hd
theorem pe_bltn {x : Str} {v : V} {u : Value} {pos : Pos} (hg : Gl X x) (hm : X.mg x = none) (hv : bootBuiltins x = some u) (r : RelV v u) (hn : x ≠ "__name__" := by decide) (hd : (x == ("__debug__" : Str)) = false := by decide) : PE X (.Name x pos) (tC v) :=
  fun _ _ _ H _ I h => ld_blt I hg hm hv ⟨v, H, I, r, h⟩ hn hd
variable {a b : Expr} {ta tb : TE} {pos : Pos}
def PC (X : Cx) (op : CmpOp) (a b : Expr) (t : TE) : Prop :=
  ∀ (pins : List (Addr × Obj)) (s : Shared) (σ : St) (H : Hp) (Q : VK), Inv X pins σ H s → t σ H Q →
    wpAny (model X.prog X.w) X.A (eval a X.env) (fun v s₁ => wpAny (model X.prog X.w) X.A (eval b X.env) (fun u s₂ => wpAny (model X.prog X.w) X.A (compareOp op v u) (EP X pins σ Q) X.xe s₂) X.xe s₁) X.xe s
theorem nobehind (b : Expr) {op : CmpOp} (h : op ≠ .In) (h2 : op ≠ .NotIn) : behindInMarks op b = false := by
  have e1 : (op == CmpOp.In) = false := by cases op <;> first | rfl | exact absurd rfl h
  have e2 : (op == CmpOp.NotIn) = false := by cases op <;> first | rfl | exact absurd rfl h2
  cases b <;> simp [behindInMarks, e1, e2]
def tIsN (ta : TE) : TE := fun σ H Q => ta σ H fun x H1 => Q (.bl (decide (x = .non))) H1
theorem RelV.none_iff {x : V} {v : Value} (r : RelV x v) : (v == Value.none) = decide (x = .non) := by
  cases x with
  | non => cases r; rfl
  | bl _ => cases r; rfl
  | int _ => obtain ⟨t, rfl⟩ := r; rfl
  | str _ => obtain ⟨t, rfl⟩ := r; rfl
  | byt _ => obtain ⟨t, rfl⟩ := r; rfl
  | flt _ => obtain ⟨t, rfl⟩ := r; rfl
  | ref _ => cases r; rfl
  | ty _ => cases r; rfl
theorem pc_isN {j pos'} (ha : PE X a ta) : PC X .Is a (.Constant .none j pos') (tIsN ta) := by
  intro pins s σ H Q I h
  refine thn (ha pins s σ H _ I h) fun v s1 ⟨x, H1, I1, r1, q1⟩ => ?_
  exact Constant_none (is_none_gen ⟨.bl _, H1, I1, by rw [r1.none_iff]; rfl, q1⟩)
def tB (t : TE) : TT := fun σ H Q => t σ H fun x H1 => ∃ c, x = .bl c ∧ Q c H1
theorem pt_cmp {op : CmpOp} {t : TE} (h : PC X op a b t) (h1 : behindInMarks op b = false := by first | exact nobehind _ (by decide) (by decide) | rfl) : PT X (.Compare a [op] [b] pos) (tB t) := by
  intro pins s σ H Q I hw
  refine wpAny_isTrue_Compare1 (thn (h pins s σ H _ I hw) fun v s1 h1 => thn h1 fun u s2 h2 => thn h2 fun c s3 ⟨x, H1, I1, r1, q1⟩ => ?_) h1
  obtain ⟨d, rfl, q⟩ := q1
  cases r1
  exact wpAny_truthy_bool ⟨H1, I1, q⟩
theorem pt_val {e : Expr} {t : TE} (h : PE X e t) (he : ∀ whole, isTrue e X.env whole = (do let v ← whole; standAt e.pos; holding [v] (truthy v)) := by intro _; rfl) : PT X e (tB t) := by
  intro pins s σ H Q I hw
  refine isTrue_plain (thn (h pins s σ H _ I hw) fun v s1 ⟨x, H1, I1, r1, q1⟩ => ?_) (he _)
  obtain ⟨d, rfl, q⟩ := q1
  cases r1
  exact wpAny_truthy_bool ⟨H1, I1, q⟩
variable {tA tB' : TT} {rest : List Expr}
def tAnd (t u : TT) : TT := fun σ H Q => t σ H fun c H1 => if c = true then u σ H1 Q else Q false H1
def tOr (t u : TT) : TT := fun σ H Q => t σ H fun c H1 => if c = true then Q true H1 else u σ H1 Q
def tNot (t : TT) : TT := fun σ H Q => t σ H fun c H1 => Q (!c) H1
theorem pw_and1 (ha : PT X a tA) : PW X (.BoolOp .And [a] pos) tA := by
  intro wh pins s σ H Q I h
  refine isTrue_and (thn (ha pins s σ H Q I h) fun c s1 e => ?_)
  cases c with
  | true => exact isTrue_and_nil e
  | false => exact e
theorem pw_or1 (ha : PT X a tA) : PW X (.BoolOp .Or [a] pos) tA := by
  intro wh pins s σ H Q I h
  refine isTrue_or (thn (ha pins s σ H Q I h) fun c s1 e => ?_)
  cases c with
  | false => exact isTrue_or_nil e
  | true => exact e
theorem pw_and (ha : PT X a tA) (hb : PW X (.BoolOp .And (b :: rest) pos) tB') : PW X (.BoolOp .And (a :: b :: rest) pos) (tAnd tA tB') := by
  intro wh pins s σ H Q I h
  refine isTrue_and (thn (ha pins s σ H _ I h) fun c s1 ⟨H1, I1, q1⟩ => ?_)
  cases c with
  | true => exact hb wh pins s1 σ H1 Q I1 q1
  | false => exact ⟨H1, I1, q1⟩
theorem pw_or (ha : PT X a tA) (hb : PW X (.BoolOp .Or (b :: rest) pos) tB') : PW X (.BoolOp .Or (a :: b :: rest) pos) (tOr tA tB') := by
  intro wh pins s σ H Q I h
  refine isTrue_or (thn (ha pins s σ H _ I h) fun c s1 ⟨H1, I1, q1⟩ => ?_)
  cases c with
  | true => exact ⟨H1, I1, q1⟩
  | false => exact hb wh pins s1 σ H1 Q I1 q1
theorem pt_not (ha : PT X a tA) : PT X (.UnaryOp .Not a pos) (tNot tA) := by
  intro pins s σ H Q I h
  exact isTrue_not (ha pins s σ H (fun c H1 => Q (!c) H1) I h)
def tAndV (ta tb : TE) : TE := fun σ H Q => ta σ H fun x H1 => ∃ c, x = .bl c ∧ if c = true then tb σ H1 Q else Q (.bl false) H1
def tNotV (ta : TE) : TE := fun σ H Q => ta σ H fun x H1 => ∃ c, x = .bl c ∧ Q (.bl (!c)) H1
theorem pe_one {op} {t : TE} (h : PE X a t) : PE X (.BoolOp op [a] pos) t := fun pins s σ H Q I hw => BoolOp_one (h pins s σ H Q I hw)
theorem pe_and (ha : PE X a ta) (hb : PE X (.BoolOp .And (b :: rest) pos) tb) : PE X (.BoolOp .And (a :: b :: rest) pos) (tAndV ta tb) := by
  intro pins s σ H Q I h
  refine BoolOp_and (thn (ha pins s σ H _ I h) fun v s1 ⟨x, H1, I1, r1, q1⟩ => ?_)
  obtain ⟨c, rfl, q1⟩ := q1
  cases r1
  refine wpAny_truthy_bool ?_
  cases c with
  | true => exact hb pins s1 σ H1 Q I1 q1
  | false => exact ⟨.bl false, H1, I1, rfl, q1⟩
theorem pe_not (ha : PE X a ta) : PE X (.UnaryOp .Not a pos) (tNotV ta) := by
  intro pins s σ H Q I h
  refine UnaryOp_ (thn (ha pins s σ H _ I h) fun v s1 ⟨x, H1, I1, r1, q1⟩ => ?_)
  obtain ⟨c, rfl, q1⟩ := q1
  cases r1
  exact not_of (wpAny_truthy_bool ⟨.bl (!c), H1, I1, rfl, q1⟩)
def tIf (t : TT) (ta tb : TE) : TE := fun σ H Q => t σ H fun c H1 => if c = true then ta σ H1 Q else tb σ H1 Q
theorem pe_ifExp {c : Expr} (hc : PT X c tA) (ha : PE X a ta) (hb : PE X b tb) : PE X (.IfExp c a b pos) (tIf tA ta tb) := by
  intro pins s σ H Q I h
  refine wpAny_IfExp (thn (hc pins s σ H _ I h) fun d s1 ⟨H1, I1, q1⟩ => ?_)
  cases d with
  | true => exact ha pins s1 σ H1 Q I1 q1
  | false => exact hb pins s1 σ H1 Q I1 q1
end
end L2
namespace L2
open PySem PySem.Spec PyProof.Rows
def SqL (K : PySem.W.Frag) (H : Hp) (a : Addr) (xs : List V) : Prop :=
  Rd H a (.lst xs) ∨
    ∃ (o : Obj) (its : Array Value) (n : Nat), K.lookup a = some o ∧ o.cls = .type "list" ∧ o.dict = none ∧ o.data = .seq its n ∧ its.size ≤ sizeLine ∧ Vals xs its.toList
def SqT (K : PySem.W.Frag) (H : Hp) (a : Addr) (xs : List V) : Prop :=
  Rd H a (.tup xs) ∨
    ∃ (o : Obj) (its : Array Value) (n : Nat), K.lookup a = some o ∧ o.cls = .type "tuple" ∧ o.data = .seq its n ∧ its.size ≤ sizeLine ∧ Vals xs its.toList
def absV : Value → Option V
  | .none => some .non
  | .bool b => some (.bl b)
  | .int i _ => some (.int i)
  | .str x _ => some (.str x)
  | .bytes b _ => some (.byt b)
  | .float b _ => some (.flt b)
  | .ref a => some (.ref a)
  | .type n => some (.ty n)
  | _ => none
theorem RelV.abs {x : V} {u : Value} (r : RelV x u) : absV u = some x := by
  cases x with
  | non => cases r; rfl
  | bl _ => cases r; rfl
  | int _ => obtain ⟨t, rfl⟩ := r; rfl
  | str _ => obtain ⟨t, rfl⟩ := r; rfl
  | byt _ => obtain ⟨t, rfl⟩ := r; rfl
  | flt _ => obtain ⟨t, rfl⟩ := r; rfl
  | ref _ => cases r; rfl
  | ty _ => cases r; rfl
theorem RelV.inj {x y : V} {u : Value} (r : RelV x u) (q : RelV y u) : x = y := Option.some.inj (r.abs.symm.trans q.abs)
theorem Vals.inj : ∀ {xs ys : List V} {us : List Value}, Vals xs us → Vals ys us → xs = ys
  | _, _, _, .nil, .nil => rfl
  | _, _, _, .cons r t, .cons r' t' => by rw [r.inj r', Vals.inj t t']
section
variable {X : Cx} {pins : List (Addr × Obj)} {σ : St} {H : Hp} {s : Shared} {a : Addr} {xs ys : List V}
theorem SqL.of {K : PySem.W.Frag} (h : H a = some (.lst xs)) : SqL K H a xs := .inl (.inl h)
theorem SqT.of {K : PySem.W.Frag} (h : H a = some (.tup xs)) : SqT K H a xs := .inl (.inl h)
theorem Inv.list (I : Inv X pins σ H s) (h : SqL X.K H a xs) : ∃ its : List Value, Vals xs its ∧ PlainL s.heap a its.toArray ∧ xs.length ≤ sizeLine := by
  rcases h with h | ⟨o, its, n, hk, hc, hd, hs, hz, r⟩
  · obtain ⟨z, its, n, r, e⟩ := h.ok I.hok
    exact ⟨its, r, ⟨_, n, e, rfl, rfl, rfl⟩, z⟩
  · refine ⟨its.toList, r, ⟨o, n, I.kIn a o hk, hc, hd, by simpa using hs⟩, ?_⟩
    have e := r.length
    simp only [Array.length_toList] at e
    omega
theorem Inv.tuple (I : Inv X pins σ H s) (h : SqT X.K H a xs) : ∃ its : List Value, Vals xs its ∧ IsTup s.heap a its.toArray ∧ xs.length ≤ sizeLine := by
  rcases h with h | ⟨o, its, n, hk, hc, hs, hz, r⟩
  · obtain ⟨z, its, r, p⟩ := h.ok I.hok
    exact ⟨its, r, p, z⟩
  · refine ⟨its.toList, r, ⟨o, I.kIn a o hk, hc, n, by simpa using hs⟩, ?_⟩
    have e := r.length
    simp only [Array.length_toList] at e
    omega
theorem Inv.list_inj (I : Inv X pins σ H s) (h : SqL X.K H a xs) (h' : SqL X.K H a ys) : xs = ys := by
  obtain ⟨its, r, ⟨o, n, e, _, _, d⟩, _⟩ := I.list h
  obtain ⟨its', r', ⟨o', n', e', _, _, d'⟩, _⟩ := I.list h'
  rw [e] at e'; cases e'
  rw [d] at d'
  injection d' with d1 _
  have : its = its' := by simpa using congrArg Array.toList d1
  subst this
  exact r.inj r'
theorem Inv.tuple_inj (I : Inv X pins σ H s) (h : SqT X.K H a xs) (h' : SqT X.K H a ys) : xs = ys := by
  obtain ⟨its, r, ⟨o, e, _, n, d⟩, _⟩ := I.tuple h
  obtain ⟨its', r', ⟨o', e', _, n', d'⟩, _⟩ := I.tuple h'
  rw [e] at e'; cases e'
  rw [d] at d'
  injection d' with d1 _
  have : its = its' := by simpa using congrArg Array.toList d1
  subst this
  exact r.inj r'
end
abbrev Cx.wish (X : Cx) (E : Value → Shared → Prop) : Cx := { X with xe := E }
abbrev Cx.nox (X : Cx) : Cx := X.wish fun _ _ => False
theorem Cx.Ok.wish {X : Cx} (ok : X.Ok) (E : Value → Shared → Prop) : (X.wish E).Ok :=
  ⟨ok.mod, ok.kind, ok.glob, ok.blt, ok.above, ok.inj, ok.has, ok.cab, ok.hd, ok.frames, ok.stk, ok.exf, ok.bs, ok.bsz, ok.noex, ok.exfs, ok.funs, ok.frf⟩
theorem Cx.Ok.unwish {X : Cx} {E : Value → Shared → Prop} (ok : (X.wish E).Ok) : X.Ok :=
  ⟨ok.mod, ok.kind, ok.glob, ok.blt, ok.above, ok.inj, ok.has, ok.cab, ok.hd, ok.frames, ok.stk, ok.exf, ok.bs, ok.bsz, ok.noex, ok.exfs, ok.funs, ok.frf⟩
section
variable {X : Cx} {pins : List (Addr × Obj)} {σ : St} {H : Hp} {s : Shared} {E : Value → Shared → Prop}
theorem Inv.wish (I : Inv X pins σ H s) (E : Value → Shared → Prop) : Inv (X.wish E) pins σ H s := ⟨I.ok.wish E, I.os, I.bare, I.base, I.loc, I.cell, I.free, I.freeC, I.pin, I.hok, I.len⟩
theorem Inv.unwish (I : Inv (X.wish E) pins σ H s) : Inv X pins σ H s := ⟨I.ok.unwish, I.os, I.bare, I.base, I.loc, I.cell, I.free, I.freeC, I.pin, I.hok, I.len⟩
theorem SP.unwish {D : Ends} {f : Flow} {s' : Shared} (h : SP (X.wish E) pins D f s') : SP X pins D f s' := by
  cases f with
  | next => obtain ⟨σ', H', I, q⟩ := h; exact ⟨σ', H', I.unwish, q⟩
  | brk => obtain ⟨σ', H', I, q⟩ := h; exact ⟨σ', H', I.unwish, q⟩
  | cont => obtain ⟨σ', H', I, q⟩ := h; exact ⟨σ', H', I.unwish, q⟩
  | ret u => obtain ⟨v, σ', H', I, r, q⟩ := h; exact ⟨v, σ', H', I.unwish, r, q⟩
theorem PE.nox {e : Expr} {t : TE} (h : PE X.nox e t) : PE X e t := fun pins s σ H Q I hw =>
  wpAny_mono (h pins s σ H Q (I.wish _) hw) (fun _ _ ⟨v, H', I', r, q⟩ => ⟨v, H', I'.unwish, r, q⟩) fun _ _ z => False.elim z
theorem PT.nox {e : Expr} {t : TT} (h : PT X.nox e t) : PT X e t := fun pins s σ H Q I hw =>
  wpAny_mono (h pins s σ H Q (I.wish _) hw) (fun _ _ ⟨H', I', q⟩ => ⟨H', I'.unwish, q⟩) fun _ _ z => False.elim z
theorem PSs.nox {st : List Stmt} {t : TS} (h : PSs X.nox st t) : PSs X st t := fun pins s σ H D I hw =>
  wpAny_mono (h pins s σ H D (I.wish _) hw) (fun _ _ q => q.unwish) fun _ _ z => False.elim z
end
section
variable {X : Cx} {st : Stmt} {rest : List Stmt} {t u : TS} {e : Expr} {te : TE} {pos : Pos}
def tNext : TS := fun D σ H => D.nx σ H
def tSeq (t u : TS) : TS := fun D σ H => t { D with nx := u D } σ H
theorem pss_nil : PSs X [] tNext := fun _ _ σ H _ I h => wpAny_execs_nil ⟨σ, H, I, h⟩
theorem pss_cons (h1 : PS X st t) (h2 : PSs X rest u) : PSs X (st :: rest) (tSeq t u) := by
  intro pins s σ H D I h
  refine wpAny_execs_cons (thn (h1 pins s σ H { D with nx := u D } I h) fun f s1 q => ?_)
  cases f with
  | next =>
    obtain ⟨σ', H', I', q⟩ := q
    exact h2 pins s1 σ' H' D I' q
  | ret v => exact q
  | brk => exact q
  | cont => exact q
theorem pss_one (h1 : PS X st t) : PSs X [st] t := by
  intro pins s σ H D I h
  refine wpAny_execs_cons (thn (h1 pins s σ H D I h) fun f s1 q => ?_)
  cases f with
  | next => exact wpAny_execs_nil q
  | ret v => exact q
  | brk => exact q
  | cont => exact q
theorem Inv.quiet {pins : List (Addr × Obj)} {σ : St} {H : Hp} {s : Shared} (I : Inv X pins σ H s) : interactive X.env = false := by simp [interactive, I.ok.kind]
def tDrop (te : TE) : TS := fun D σ H => te σ H fun _ H1 => D.nx σ H1
theorem ps_expr (he : PE X e te) (hs : swapsWith e none pos.line X.env = pure false := by rfl) : PS X (.Expr e pos) (tDrop te) := by
  intro pins s σ H D I h
  exact wpAny_Expr_any (thn (he pins s σ H _ I h) fun v s1 ⟨x, H1, I1, r1, q1⟩ => ⟨σ, H1, I1, q1⟩) I.quiet hs
def tRet (te : TE) : TS := fun D σ H => te σ H D.rt
theorem ps_ret (he : PE X e te) : PS X (.Return (some e) pos) (tRet te) := by
  intro pins s σ H D I h
  exact wpAny_Return_some (thn (he pins s σ H _ I h) fun v s1 ⟨x, H1, I1, r1, q1⟩ => ⟨x, σ, H1, I1, r1, q1⟩)
def tIfS (c : TT) (t u : TS) : TS := fun D σ H => c σ H fun b H1 => if b = true then t D σ H1 else u D σ H1
theorem ps_if {c : Expr} {a b : List Stmt} {tc : TT} (hc : PT X c tc) (ha : PSs X a t) (hb : PSs X b u) : PS X (.If c a b pos) (tIfS tc t u) := by
  intro pins s σ H D I h
  refine wpAny_If (thn (hc pins s σ H _ I h) fun d s1 ⟨H1, I1, q1⟩ => ?_)
  cases d with
  | true => exact ha pins s1 σ H1 D I1 q1
  | false => exact hb pins s1 σ H1 D I1 q1
end
abbrev TG := V → St → Hp → (St → Hp → Prop) → Prop
abbrev TGs := List V → St → Hp → (St → Hp → Prop) → Prop
def PG (X : Cx) (target : Expr) (t : TG) : Prop :=
  ∀ (pins : List (Addr × Obj)) (s : Shared) (σ : St) (H : Hp) (v : V) (u : Value) (Q : St → Hp → Prop), Inv X pins σ H s → RelV v u → t v σ H Q →
    wpAny (model X.prog X.w) X.A (assign target X.env u) (fun _ s' => ∃ σ' H', Inv X pins σ' H' s' ∧ Q σ' H') X.xe s
def PGs (X : Cx) (ts : List Expr) (t : TGs) : Prop :=
  ∀ (pins : List (Addr × Obj)) (s : Shared) (σ : St) (H : Hp) (vs : List V) (us : List Value) (Q : St → Hp → Prop), Inv X pins σ H s → Vals vs us → t vs σ H Q →
    wpAny (model X.prog X.w) X.A (assignInOrder ((assignEach ts X.env).map (·.2)) us) (fun _ s' => ∃ σ' H', Inv X pins σ' H' s' ∧ Q σ' H') X.xe s
abbrev TSet := V → V → V → Hp → (Hp → Prop) → Prop
def PSet (X : Cx) (t : TSet) : Prop :=
  ∀ (pins : List (Addr × Obj)) (s : Shared) (σ : St) (H : Hp) (o i v : V) (ov iv u : Value) (Q : Hp → Prop), Inv X pins σ H s → RelV o ov → RelV i iv → RelV v u → t o i v H Q →
    wpAny (model X.prog X.w) X.A (setItem ov iv u) (fun _ s' => ∃ H', Inv X pins σ H' s' ∧ Q H') X.xe s
abbrev TIp := V → V → Hp → VK → Prop
def PIp (X : Cx) (op : Operator) (t : TIp) : Prop :=
  ∀ (pins : List (Addr × Obj)) (s : Shared) (σ : St) (H : Hp) (x y : V) (v u : Value) (Q : VK), Inv X pins σ H s → RelV x v → RelV y u → t x y H Q →
    wpAny (model X.prog X.w) X.A (inplaceOp op v u) (EP X pins σ Q) X.xe s
section
variable {X : Cx} {pos : Pos}
def gName (i : Nat) : TG := fun v σ H Q => Q (σ.set i (some v)) H
theorem pg_name {i : Nat} {x : Str} (hN : X.N.Nodup) (hi : X.N[i]? = some x) (hx : Loc X.env.scope x) (hf : X.fn x = true ∨ X.env.scope.names.lookup x = some .local := by first | exact .inl rfl | exact .inr rfl | assumption) : PG X (.Name x pos) (gName i) := by
  intro pins s σ H v u Q I r h
  exact wpAny_assign_Name (store_ok I hN hi hx r (fun s' I' => ⟨_, H, I', h⟩) hf)
def gNil : TGs := fun vs σ H Q => vs = [] ∧ Q σ H
def gCons (t : TG) (u : TGs) : TGs := fun vs σ H Q => ∃ v r, vs = v :: r ∧ t v σ H fun σ' H' => u r σ' H' Q
theorem pgs_nil : PGs X [] gNil := by
  intro pins s σ H vs us Q I r h
  obtain ⟨e, h⟩ := h
  subst e
  cases r
  exact assignInOrder_nil ⟨σ, H, I, h⟩
theorem pgs_cons {e : Expr} {es : List Expr} {t : TG} {u : TGs} (h1 : PG X e t) (h2 : PGs X es u)
    (hs : (assignEach (e :: es) X.env).map (·.2) = assign e X.env :: (assignEach es X.env).map (·.2) := by rfl) : PGs X (e :: es) (gCons t u) := by
  intro pins s σ H vs us Q I r h
  obtain ⟨v, vr, e1, h⟩ := h
  subst e1
  cases r with
  | cons r rr =>
    rw [hs]
    refine assignInOrder_cons (thn (h1 pins s σ H _ _ _ I r h) fun _ s1 ⟨σ1, H1, I1, q1⟩ => ?_)
    exact h2 pins s1 σ1 H1 _ _ Q I1 rr q1
def gTup (K : PySem.W.Frag) (n : Nat) (t : TGs) : TG := fun v σ H Q => ∃ a xs, v = .ref a ∧ SqT K H a xs ∧ xs.length = n ∧ t xs σ H Q
theorem pg_tup {es : List Expr} {k : Nat} {t : TGs} {n : Nat} (hc : X.calm = true) (h : PGs X es t)
    (hn : (assignEach es X.env).length = n := by rfl) (hst : (assignEach es X.env).findIdx? (·.1) = none := by rfl) : PG X (.Tuple es k pos) (gTup X.K n t) := by
  intro pins s σ H v u Q I r hw
  obtain ⟨a, xs, e1, hq, hl, hw⟩ := hw
  subst e1
  cases r
  obtain ⟨its, rv, ht, hz⟩ := I.tuple hq
  refine assign_Tuple_tuple (I.ok.hd hc) ht (by simp [hn, ← hl, rv.length]) hst fun h' hx => ?_
  have I1 : Inv X pins σ H { s with heap := h' } := I.kept (t' := s.toks) fun b o e => hx b o (Nat.ne_of_lt (Heap.lt_size e)) e
  exact h pins _ σ H xs _ Q I1 (by simpa using rv) hw
def gSub (to ti : TE) (t : TSet) : TG := fun v σ H Q => to σ H fun o H1 => ti σ H1 fun i H2 => t o i v H2 fun H3 => Q σ H3
theorem pg_sub {o i : Expr} {to ti : TE} {t : TSet} (ho : PE X o to) (hi : PE X i ti) (hs : PSet X t)
    (ha : ∀ v, assign (.Subscript o i pos) X.env v = (do
      let ov ← holding [v] (eval o X.env)
      let iv ← holding [v, ov] (eval i X.env)
      standAt pos
      holding [v, ov, iv] (setItem ov iv v)
      release [v, ov, iv] []) := by intro _; rfl) : PG X (.Subscript o i pos) (gSub to ti t) := by
  intro pins s σ H v u Q I r h
  rw [ha]
  refine wpAny_bind (wpAny_holding (thn (ho pins s σ H _ I h) fun ov s1 ⟨x, H1, I1, r1, q1⟩ => ?_))
  refine wpAny_bind (wpAny_holding (thn (hi pins s1 σ H1 _ I1 q1) fun iv s2 ⟨y, H2, I2, r2, q2⟩ => ?_))
  refine wpAny_bind (wpAny_standAt (wpAny_bind (wpAny_holding (thn (hs pins s2 σ H2 x y v ov iv u _ I2 r1 r2 r q2) fun _ s3 ⟨H3, I3, q3⟩ => ?_))))
  exact wpAny_release ⟨σ, H3, I3, q3⟩
def tAsg (te : TE) (g : TG) : TS := fun D σ H => te σ H fun x H1 => g x σ H1 D.nx
theorem ps_asg {tg e : Expr} {te : TE} {g : TG} (he : PE X e te) (hg : PG X tg g) (hs : swapsWithSole [tg] e pos.line X.env = pure false := by rfl) (hw : swappedStores [tg] e X.env = pure none := by rfl)
    (h1 : (assignEach [tg] X.env).map (·.2) = [assign tg X.env] := by rfl) : PS X (.Assign [tg] e pos) (tAsg te g) := by
  intro pins s σ H D I h
  refine wpAny_Assign_stores (thn (he pins s σ H _ I h) fun v s1 ⟨x, H1, I1, r1, q1⟩ => ?_) hs hw
  rw [h1]
  exact thn (hg pins s1 σ H1 x v _ I1 r1 q1) fun _ s2 q => q
theorem ps_set {i : Nat} {x : Str} {e : Expr} {te : TE} {pos' : Pos} (hN : X.N.Nodup) (hi : X.N[i]? = some x) (hx : Loc X.env.scope x) (he : PE X e te) (hs : swapsWith e (some (.Name x pos')) pos.line X.env = pure false := by rfl) (hf : X.fn x = true ∨ X.env.scope.names.lookup x = some .local := by first | exact .inl rfl | exact .inr rfl | assumption) :
    PS X (.Assign [.Name x pos'] e pos) (tAsg te (gName i)) := by
  intro pins s σ H D I h
  refine wpAny_Assign_Name (thn (he pins s σ H _ I h) fun v s1 ⟨y, H1, I1, r1, q1⟩ => ?_) hs
  exact store_ok I1 hN hi hx r1 (fun s2 I2 => ⟨_, H1, I2, q1⟩) hf
def tAugS (to ti te : TE) (tget : V → V → Hp → VK → Prop) (tip : TIp) (tset : TSet) : TS := fun D σ H => to σ H fun o H1 => ti σ H1 fun i H2 => tget o i H2 fun x H3 => te σ H3 fun y H4 => tip x y H4 fun z H5 => tset o i z H5 fun H6 => D.nx σ H6
def PGet (X : Cx) (t : V → V → Hp → VK → Prop) : Prop :=
  ∀ (pins : List (Addr × Obj)) (s : Shared) (σ : St) (H : Hp) (o i : V) (ov iv : Value) (Q : VK), Inv X pins σ H s → RelV o ov → RelV i iv → t o i H Q →
    wpAny (model X.prog X.w) X.A (getItem ov iv) (EP X pins σ Q) X.xe s
theorem ps_augS {o i e : Expr} {to ti te : TE} {tget : V → V → Hp → VK → Prop} {tip : TIp} {tset : TSet} {op : Operator} {tpos : Pos} (ho : PE X o to) (hi : PE X i ti) (hg : PGet X tget) (he : PE X e te) (hp : PIp X op tip) (hs : PSet X tset)
    (ha : ∀ ov iv new, augStore i ov iv new = (do holding [new, ov, iv] (setItem ov iv new); release [new, ov, iv] []; pure .next) := by intros; rfl) : PS X (.AugAssign (.Subscript o i tpos) op e pos) (tAugS to ti te tget tip tset) := by
  intro pins s σ H D I h
  refine wpAny_AugAssign_SubscriptAny (thn (ho pins s σ H _ I h) fun ov s1 ⟨x1, H1, I1, r1, q1⟩ => ?_) ha
  refine thn (hi pins s1 σ H1 _ I1 q1) fun iv s2 ⟨x2, H2, I2, r2, q2⟩ => ?_
  refine thn (hg pins s2 σ H2 x1 x2 ov iv _ I2 r1 r2 q2) fun old s3 ⟨x3, H3, I3, r3, q3⟩ => ?_
  refine thn (he pins s3 σ H3 _ I3 q3) fun v s4 ⟨x4, H4, I4, r4, q4⟩ => ?_
  refine thn (hp pins s4 σ H4 x3 x4 old v _ I4 r3 r4 q4) fun new s5 ⟨x5, H5, I5, r5, q5⟩ => ?_
  exact thn (hs pins s5 σ H5 x1 x2 x5 ov iv new _ I5 r1 r2 r5 q5) fun _ s6 ⟨H6, I6, q6⟩ => ⟨σ, H6, I6, q6⟩
def ipI (f : Int → Int → Int) : TIp := fun x y H Q => ∃ i j, x = .int i ∧ y = .int j ∧ Q (.int (f i j)) H
theorem ip_add : PIp X .Add (ipI fun i j => i + j) := by
  intro pins s σ H x y v u Q I r1 r2 h
  obtain ⟨i, j, e1, e2, q⟩ := h
  subst e1; subst e2
  obtain ⟨t, rfl⟩ := r1
  obtain ⟨t', rfl⟩ := r2
  exact iadd_int ⟨.int _, H, I.tok _, ⟨_, rfl⟩, q⟩
end
section
variable {X : Cx} {pos : Pos}
def tWhile (c : TT) (tb : TS) : TS := fun D σ H => ∃ W : Nat → St → Hp → Prop, (∃ m, W m σ H) ∧ ∀ m σ H, W m σ H →
  c σ H fun b H1 => if b = true then ∃ N : St → Hp → Prop, (∀ σ' H', N σ' H' → ∃ m', m' < m ∧ W m' σ' H') ∧ tb { D with nx := N, ct := N, bk := D.nx } σ H1 else D.nx σ H1
theorem ps_while {c : Expr} {body : List Stmt} {tc : TT} {tb : TS} (hp : PassesOwn (model X.prog X.w) X.A X.env X.xe) (hc : PT X c tc) (hb : PSs X body tb) : PS X (.While c body [] pos) (tWhile tc tb) := by
  intro pins s σ H D I h
  obtain ⟨W, ⟨m0, w0⟩, turn⟩ := h
  refine wpAny_While (codeAny_whileLoop (fun n s' => ∃ σ' H', Inv X pins σ' H' s' ∧ W n σ' H') ?_ m0 ⟨σ, H, I, w0⟩)
  rintro n s1 ⟨σ1, H1, I1, w1⟩
  refine wpAny_passesOwn hp (thn (hc pins s1 σ1 H1 _ I1 (turn n σ1 H1 w1)) fun b s2 ⟨H2, I2, q2⟩ => ?_)
  cases b with
  | true =>
    obtain ⟨N, hN, q2⟩ := q2
    rw [if_pos rfl]
    refine wpAny_passesOwn hp (thn (hb pins s2 σ1 H2 _ I2 q2) fun f s3 q3 => ?_)
    cases f with
    | next =>
      obtain ⟨σ3, H3, I3, n3⟩ := q3
      obtain ⟨m', hm, w3⟩ := hN σ3 H3 n3
      exact ⟨m', hm, σ3, H3, I3, w3⟩
    | cont =>
      obtain ⟨σ3, H3, I3, n3⟩ := q3
      obtain ⟨m', hm, w3⟩ := hN σ3 H3 n3
      exact ⟨m', hm, σ3, H3, I3, w3⟩
    | brk => exact q3
    | ret v => exact q3
  | false =>
    rw [if_neg Bool.false_ne_true]
    exact wpAny_execs_nil ⟨σ1, H2, I2, q2⟩
end
structure It where
  go : Nat → Hp → Prop
  yld : Nat → Hp → V → Hp → Prop
  stop : Nat → Hp → Prop
def FpOk (X : Cx) (pins : List (Addr × Obj)) (H : Hp) (b : Addr) : Prop :=
  H b = none ∧ b ≠ X.env.locals ∧ b ∉ X.fs ∧ (b ∈ X.ex ∨ X.s₀.heap.objs.size ≤ b) ∧ (∀ x c, X.env.cells.lookup x = some c → c ≠ b) ∧ ∀ p ∈ X.pn ++ pins, p.1 ≠ b
theorem Inv.fpOk {X : Cx} {pins : List (Addr × Obj)} {σ : St} {H H' : Hp} {s : Shared} {b : Addr} (I : Inv X pins σ H s) (hb : s.heap.objs.size ≤ b) (hn : H' b = none) : FpOk X pins H' b := by
  refine ⟨hn, Nat.ne_of_gt (Nat.lt_of_lt_of_le I.lt hb), I.nofs hb, .inr (Nat.le_trans I.sz hb), fun x c e z => ?_, fun p hp z => ?_⟩
  · obtain ⟨v, q⟩ := I.cell x c e
    exact absurd (Nat.lt_of_lt_of_le q.lt (by rw [z]; exact hb)) (Nat.lt_irrefl _)
  · exact absurd (Nat.lt_of_lt_of_le (Heap.lt_size (I.pin p hp).1) (by rw [z]; exact hb)) (Nat.lt_irrefl _)
structure Turn (P : Program) (w : World) (K : PySem.W.Frag) (tg : Expr) (J : It) (fp : List Addr) (it : Addr) (tn : Nat → Heap → Prop) : Prop where
  mem : it ∈ fp
  obj : ∀ i h, tn i h → ∀ b ∈ fp, ∃ o, h.get? b = some o ∧ ∀ v, o.data ≠ .cell v
  keep : ∀ i h h', tn i h → (∀ b ∈ fp, ∀ o, h.get? b = some o → h'.get? b = some o) → tn i h'
  item : ∀ (X : Cx), X.prog = P → X.w = w → X.K = K → X.calm = true → ∀ (i : Nat) (pins : List (Addr × Obj)) (s : Shared) (σ : St) (H : Hp) (E : Value → Shared → Prop), Inv X pins σ H s → (∀ b ∈ fp, FpOk X pins H b) → tn i s.heap → J.go i H →
    wpAny (model P w) X.A (pyNext (.ref it)) (fun r s1 => ∃ u, r = some u ∧
      wpAny (model P w) X.A (letOwnedTupleGo tg (.ref it) u) (fun _ s2 => ∃ x H', Inv X pins σ H' s2 ∧ RelV x u ∧ J.yld i H x H' ∧ tn (i + 1) s2.heap ∧ ∀ b ∈ fp, H' b = none) E s1) E s
  done : ∀ (X : Cx), X.prog = P → X.w = w → X.K = K → X.calm = true → ∀ (i : Nat) (pins : List (Addr × Obj)) (s : Shared) (σ : St) (H : Hp) (E : Value → Shared → Prop), Inv X pins σ H s → (∀ b ∈ fp, FpOk X pins H b) → tn i s.heap → J.stop i H →
    wpAny (model P w) X.A (pyNext (.ref it)) (fun r s1 => r = none ∧ Inv X pins σ H s1) E s
  self : ∀ (A : Around) (i : Nat) (s : Shared) (Q : Value → Shared → Prop) (E : Value → Shared → Prop), tn i s.heap → Q (.ref it) s → wpAny (model P w) A (pyIter (.ref it)) Q E s
abbrev TI := St → Hp → (It → Hp → Prop) → Prop
def PIE (X : Cx) (pins : List (Addr × Obj)) (σ : St) (tg : Expr) (R : It → Hp → Prop) (itv : Value) (s2 : Shared) : Prop :=
  ∃ (it : Addr) (fp : List Addr) (tn : Nat → Heap → Prop) (J : It) (H' : Hp), itv = .ref it ∧ Inv X pins σ H' s2 ∧ Turn X.prog X.w X.K tg J fp it tn ∧ tn 0 s2.heap ∧ (∀ b ∈ fp, FpOk X pins H' b) ∧ R J H'
def PI (X : Cx) (tg iter : Expr) (wi : TI) : Prop :=
  ∀ (pins : List (Addr × Obj)) (s : Shared) (σ : St) (H : Hp) (R : It → Hp → Prop), Inv X pins σ H s → wi σ H R →
    wpAny (model X.prog X.w) X.A (eval iter X.env) (fun v s1 => wpAny (model X.prog X.w) X.A (pyIter v) (PIE X pins σ tg R) X.xe s1) X.xe s
theorem go_of {M : Model} {A : Around} {E : Value → Shared → Prop} {s : Shared} {tg : Expr} {it : Addr} {u : Value} {o : Obj} {n : String} {vs : Array Value} {Q : Unit → Shared → Prop} (ho : s.heap.get? it = some o) (hc : o.cls = .type n) (hd : o.data = .fields vs)
    (hn : ["enumerate", "zip", "dict_itemiterator", "dict_reverseitemiterator", "odict_iterator", "itertools.zip_longest", "itertools.pairwise"].contains n = false) (hQ : Q () s) : wpAny M A (letOwnedTupleGo tg (.ref it) u) Q E s := by
  unfold letOwnedTupleGo
  cases tg <;> first
    | exact wpAny_pure hQ
    | (cases u <;> first
        | exact wpAny_pure hQ
        | (refine wpAny_bind (wpAny_load ho ?_)
           rw [hc, hd]
           show wpAny M A (if (["enumerate", "zip", "dict_itemiterator", "dict_reverseitemiterator", "odict_iterator", "itertools.zip_longest", "itertools.pairwise"].contains n && vs[0]? == some (rawInt _)) = true then _ else _) Q E s
           rw [if_neg (by intro h; rw [hn, Bool.false_and] at h; cases h)]
           exact wpAny_pure hQ))
def Itl (K : PySem.W.Frag) (a : Addr) : It :=
  ⟨fun i H => ∃ xs x, SqL K H a xs ∧ xs[i]? = some x, fun i H x H' => H' = H ∧ ∀ xs, SqL K H a xs → xs[i]? = some x, fun i H => ∃ xs, SqL K H a xs ∧ xs.length ≤ i⟩
def Itt (K : PySem.W.Frag) (a : Addr) : It :=
  ⟨fun i H => ∃ xs x, SqT K H a xs ∧ xs[i]? = some x, fun i H x H' => H' = H ∧ ∀ xs, SqT K H a xs → xs[i]? = some x, fun i H => ∃ xs, SqT K H a xs ∧ xs.length ≤ i⟩
def Itr (lo : Int) (n : Nat) : It := ⟨fun i _ => i < n, fun i H x H' => H' = H ∧ x = .int (lo + i), fun i _ => n ≤ i⟩
theorem turn_list {P : Program} {w : World} {K : PySem.W.Frag} {tg : Expr} (a it : Addr) : Turn P w K tg (Itl K a) [it] it (fun i h => h.IsListIter it a i) where
  mem := by simp
  obj := fun i h st b hb => by
    have e : b = it := by simpa using hb
    subst e
    obtain ⟨o, e, c, d⟩ := st
    exact ⟨o, e, fun v z => by rw [d] at z; cases z⟩
  keep := fun i h h' st k => st.at fun o e => k it (by simp) o e
  item := by
    intro X hP hw hK hc i pins s σ H E I hf st hg
    subst hP hw hK
    obtain ⟨xs, x, hq, hx⟩ := hg
    obtain ⟨its, rv, p, hz⟩ := I.list hq
    obtain ⟨u, hu, ru⟩ := rv.get hx
    obtain ⟨f0, f1, f2, f3, f4, f5⟩ := hf it (by simp)
    refine wpAny_pyNext_list_item st p.isList (x := u) (by simpa using hu) fun h' st' sb => ?_
    have I1 : Inv X pins σ H { s with heap := h' } := I.turned (t' := s.toks) (fun b o hb e => (sb.2 b hb).trans e) f0 f1 f3 f4 f5
    obtain ⟨o, e, c, d⟩ := id st'
    exact ⟨u, rfl, go_of (s := { s with heap := h' }) e c d (by decide) ⟨x, H, I1, ru, ⟨rfl, fun ys hy => by rw [I.list_inj hy hq]; exact hx⟩, st', fun b hb => (hf b hb).1⟩⟩
  done := by
    intro X hP hw hK hc i pins s σ H E I hf st hg
    subst hP hw hK
    obtain ⟨xs, hq, hx⟩ := hg
    obtain ⟨its, rv, p, hz⟩ := I.list hq
    obtain ⟨f0, f1, f2, f3, f4, f5⟩ := hf it (by simp)
    have hl := rv.length
    exact wpAny_pyNext_list_end (I.ok.hd hc) st p.isList (by simp; omega) fun h' eb => ⟨rfl, I.turned (t' := s.toks) (fun b o hb e => eb b o hb e) f0 f1 f3 f4 f5⟩
  self := fun _ _ _ _ _ st h => wpAny_pyIter_listiter st h
theorem turn_tuple {P : Program} {w : World} {K : PySem.W.Frag} {tg : Expr} (a it : Addr) : Turn P w K tg (Itt K a) [it] it (fun i h => h.IsTupleIter it a i) where
  mem := by simp
  obj := fun i h st b hb => by
    have e : b = it := by simpa using hb
    subst e
    obtain ⟨o, e, c, d⟩ := st
    exact ⟨o, e, fun v z => by rw [d] at z; cases z⟩
  keep := fun i h h' st k => st.at fun o e => k it (by simp) o e
  item := by
    intro X hP hw hK hc i pins s σ H E I hf st hg
    subst hP hw hK
    obtain ⟨xs, x, hq, hx⟩ := hg
    obtain ⟨its, rv, p, hz⟩ := I.tuple hq
    obtain ⟨u, hu, ru⟩ := rv.get hx
    obtain ⟨f0, f1, f2, f3, f4, f5⟩ := hf it (by simp)
    refine wpAny_pyNext_tuple_item st (show s.heap.IsTuple a its.toArray from p) (x := u) (by simpa using hu) fun h' st' sb => ?_
    have I1 : Inv X pins σ H { s with heap := h' } := I.turned (t' := s.toks) (fun b o hb e => (sb.2 b hb).trans e) f0 f1 f3 f4 f5
    obtain ⟨o, e, c, d⟩ := id st'
    exact ⟨u, rfl, go_of (s := { s with heap := h' }) e c d (by decide) ⟨x, H, I1, ru, ⟨rfl, fun ys hy => by rw [I.tuple_inj hy hq]; exact hx⟩, st', fun b hb => (hf b hb).1⟩⟩
  done := by
    intro X hP hw hK hc i pins s σ H E I hf st hg
    subst hP hw hK
    obtain ⟨xs, hq, hx⟩ := hg
    obtain ⟨its, rv, p, hz⟩ := I.tuple hq
    obtain ⟨f0, f1, f2, f3, f4, f5⟩ := hf it (by simp)
    have hl := rv.length
    exact wpAny_pyNext_tuple_end (I.ok.hd hc) st (show s.heap.IsTuple a its.toArray from p) (by simp; omega) fun h' eb => ⟨rfl, I.turned (t' := s.toks) (fun b o hb e => eb b o hb e) f0 f1 f3 f4 f5⟩
  self := fun _ _ _ _ _ st h => wpAny_pyIter_tupleiter st h
theorem turn_range {P : Program} {w : World} {K : PySem.W.Frag} {tg : Expr} (it : Addr) (lo : Int) (n : Nat) : Turn P w K tg (Itr lo n) [it] it (fun i h => IsRangeIter h it (lo + (i : Nat) * 1) ((n : Int) - (i : Nat)) 1) where
  mem := by simp
  obj := fun i h st b hb => by
    have e : b = it := by simpa using hb
    subst e
    exact ⟨_, st, fun v z => by
      have z' : Data.fields _ = Data.cell v := z
      cases z'⟩
  keep := fun i h h' st k => k it (by simp) _ st
  item := by
    intro X hP hw hK hc i pins s σ H E I hf st hg
    subst hP hw hK
    obtain ⟨f0, f1, f2, f3, f4, f5⟩ := hf it (by simp)
    have W := Walks.range (prog := X.prog) (w := X.w) (I.ok.hd hc) it lo 1 n
    refine W.item i s _ _ hg st fun v h' tk hv st' kk => ?_
    obtain ⟨t, rfl⟩ := hv
    have I1 : Inv X pins σ H { s with heap := h', toks := tk } := I.turned (fun b o hb e => kk b o (by simpa using hb) e) f0 f1 f3 f4 f5
    refine ⟨_, rfl, go_of (s := { s with heap := h', toks := tk }) (n := "range_iterator") st' rfl rfl (by decide) ⟨.int (lo + i), H, I1, ⟨t, ?_⟩, ⟨rfl, rfl⟩, st', fun b hb => (hf b hb).1⟩⟩
    rw [Int.mul_one]
  done := by
    intro X hP hw hK hc i pins s σ H E I hf st hg
    subst hP hw hK
    obtain ⟨f0, f1, f2, f3, f4, f5⟩ := hf it (by simp)
    exact wpAny_pyNext_range_end (I.ok.hd hc) st (by have : n ≤ i := hg; omega) fun h' eb => ⟨rfl, I.turned (t' := s.toks) (fun b o hb e => eb b o hb e) f0 f1 f3 f4 f5⟩
  self := fun _ _ _ _ _ st h => wpAny_pyIter_rangeiter st h
end L2
namespace L2
open PySem PySem.Spec PyProof.Rows
section
variable {X : Cx} {tg : Expr}
def iList (K : PySem.W.Frag) (tl : TE) : TI := fun σ H R => tl σ H fun x H1 => ∃ a, x = .ref a ∧ (∃ xs, SqL K H1 a xs) ∧ R (Itl K a) H1
def iTup (K : PySem.W.Frag) (tl : TE) : TI := fun σ H R => tl σ H fun x H1 => ∃ a, x = .ref a ∧ (∃ xs, SqT K H1 a xs) ∧ R (Itt K a) H1
theorem pi_list {l : Expr} {tl : TE} (hl : PE X l tl) : PI X tg l (iList X.K tl) := by
  intro pins s σ H R I h
  refine thn (hl pins s σ H _ I h) fun v s1 ⟨x, H1, I1, r1, q1⟩ => ?_
  obtain ⟨a, e, ⟨xs, hq⟩, q⟩ := q1
  subst e
  cases r1
  obtain ⟨its, rv, p, hz⟩ := I1.list hq
  refine wpAny_pyIter_list p.isList ?_
  refine ⟨s1.heap.objs.size, [s1.heap.objs.size], _, _, H1, rfl, I1.kept (t' := s1.toks) fun b o e => Heap.get?_push_of_some _ e, turn_list a _, ⟨_, Heap.get?_push_size _ rfl, rfl, rfl⟩, fun b hb => ?_, q⟩
  have e : b = s1.heap.objs.size := by simpa using hb
  subst e
  exact I1.fpOk (Nat.le_refl _) (I1.hok.fresh (Nat.le_refl _))
theorem pi_tup {l : Expr} {tl : TE} (hl : PE X l tl) : PI X tg l (iTup X.K tl) := by
  intro pins s σ H R I h
  refine thn (hl pins s σ H _ I h) fun v s1 ⟨x, H1, I1, r1, q1⟩ => ?_
  obtain ⟨a, e, ⟨xs, hq⟩, q⟩ := q1
  subst e
  cases r1
  obtain ⟨its, rv, p, hz⟩ := I1.tuple hq
  refine wpAny_pyIter_tuple (show s1.heap.IsTuple a its.toArray from p) ?_
  refine ⟨s1.heap.objs.size, [s1.heap.objs.size], _, _, H1, rfl, I1.kept (t' := s1.toks) fun b o e => Heap.get?_push_of_some _ e, turn_tuple a _, ⟨_, Heap.get?_push_size _ rfl, rfl, rfl⟩, fun b hb => ?_, q⟩
  have e : b = s1.heap.objs.size := by simpa using hb
  subst e
  exact I1.fpOk (Nat.le_refl _) (I1.hok.fresh (Nat.le_refl _))
theorem range_it {pins : List (Addr × Obj)} {σ : St} {H : Hp} {s : Shared} {R : It → Hp → Prop} {E : Value → Shared → Prop} {lo hi : Int} {t u v : Tok} {tk : Nat} (I : Inv X pins σ H s) (h1 : -(2 ^ 62) ≤ lo) (h2 : lo < 2 ^ 62) (h3 : -(2 ^ 62) ≤ hi) (h4 : hi < 2 ^ 62)
    (q : R (Itr lo (hi - lo).toNat) H) : wpAny (model X.prog X.w) X.A (pyIter (.ref s.heap.objs.size)) (PIE X pins σ tg R) E { s with heap := s.heap.push { cls := .type "range", data := .fields #[.int lo t, .int hi u, .int 1 v] }, toks := tk } := by
  refine wpAny_pyIter_range (IsRange.new ..) (small_one h1 h2 h3 h4) ?_
  have I1 : Inv X pins σ H { s with heap := s.heap.push { cls := .type "range", data := .fields #[.int lo t, .int hi u, .int 1 v] }, toks := tk } := I.kept fun b o e => Heap.get?_push_of_some _ e
  refine ⟨(s.heap.push { cls := .type "range", data := .fields #[.int lo t, .int hi u, .int 1 v] }).objs.size, [(s.heap.push { cls := .type "range", data := .fields #[.int lo t, .int hi u, .int 1 v] }).objs.size], _, _, H, rfl,
    I1.kept (t' := tk) fun b o e => Heap.get?_push_of_some _ e, turn_range _ lo (hi - lo).toNat, ?_, fun b hb => ?_, q⟩
  · have e1 : lo + ((0 : Nat) : Int) * 1 = lo := by simp
    have e2 : (((hi - lo).toNat : Nat) : Int) - ((0 : Nat) : Int) = Builtin.Range.rangeSize lo hi 1 := by rw [rangeSize_one]; split <;> omega
    show IsRangeIter _ _ (lo + ((0 : Nat) : Int) * 1) ((((hi - lo).toNat : Nat) : Int) - ((0 : Nat) : Int)) 1
    rw [e1, e2]
    exact Heap.get?_push_size _ rfl
  · have e : b = (s.heap.push { cls := .type "range", data := .fields #[.int lo t, .int hi u, .int 1 v] }).objs.size := by simpa using hb
    subst e
    exact I1.fpOk (Nat.le_refl _) (I1.hok.fresh (Nat.le_refl _))
def iRng1 (ta : TA) : TI := fun σ H R => ta σ H fun vs H1 => ∃ j : Int, vs = [.int j] ∧ -(2 ^ 62) ≤ j ∧ j < 2 ^ 62 ∧ R (Itr 0 j.toNat) H1
def iRng2 (ta : TA) : TI := fun σ H R => ta σ H fun vs H1 => ∃ i j : Int, vs = [.int i, .int j] ∧ (-(2 ^ 62) ≤ i ∧ i < 2 ^ 62 ∧ -(2 ^ 62) ≤ j ∧ j < 2 ^ 62) ∧ R (Itr i (j - i).toNat) H1
theorem pi_range1 {a : Expr} {ta : TA} {p pos : Pos} (hg : Gl X "range") (hm : X.mg "range" = none) (ha : PA X [a] ta) (hs : starEach [a] X.env = [(false, eval a X.env)] := by rfl) : PI X tg (.Call (.Name "range" p) [a] [] pos) (iRng1 ta) := by
  intro pins s σ H R I h
  refine Call_ (ld_blt I hg hm boot_range (PyProof.Rows.callWith_type1 (thn (ha pos pins s σ H _ I h) fun us s1 ⟨vs, H1, I1, r1, q1⟩ => ?_) hs rfl))
  obtain ⟨j, e, q1, q2, q⟩ := q1
  subst e
  cases r1 with
  | cons r rr =>
    cases rr
    obtain ⟨t, rfl⟩ := r
    exact call_range_1 (range_it I1 (by omega) (by omega) q1 q2 (by simpa using q))
theorem pi_range2 {a b : Expr} {ta : TA} {p pos : Pos} (hg : Gl X "range") (hm : X.mg "range" = none) (ha : PA X [a, b] ta) (hs : starEach [a, b] X.env = [(false, eval a X.env), (false, eval b X.env)] := by rfl) (hs2 : starEach [b] X.env = [(false, eval b X.env)] := by rfl) :
    PI X tg (.Call (.Name "range" p) [a, b] [] pos) (iRng2 ta) := by
  intro pins s σ H R I h
  refine Call_ (ld_blt I hg hm boot_range (PyProof.Rows.callWith_type1 (thn (ha pos pins s σ H _ I h) fun us s1 ⟨vs, H1, I1, r1, q1⟩ => ?_) (by rw [hs, hs2]) (by rw [hs2]; rfl)))
  obtain ⟨i, j, e, ⟨q1, q2, q3, q4⟩, q⟩ := q1
  subst e
  cases r1 with
  | cons r rr =>
    cases rr with
    | cons r' rr =>
      cases rr
      obtain ⟨t, rfl⟩ := r
      obtain ⟨t', rfl⟩ := r'
      exact call_range_2 (range_it I1 q1 q2 q3 q4 q)
def tFor (wi : TI) (g : TG) (tb : TS) : TS := fun D σ H => wi σ H fun J H1 => ∃ W : Nat → Nat → St → Hp → Prop, (∃ m, W 0 m σ H1) ∧ ∀ i m σ H, W i m σ H →
  (J.stop i H ∧ D.nx σ H) ∨ (J.go i H ∧ ∃ N : St → Hp → Prop, (∀ σ' H', N σ' H' → ∃ m', m' < m ∧ W (i + 1) m' σ' H') ∧ ∀ x H', J.yld i H x H' → g x σ H' fun σ2 H2 => tb { D with nx := N, ct := N, bk := D.nx } σ2 H2)
def pinsAt (fp : List Addr) (h : Heap) : List (Addr × Obj) := fp.filterMap fun b => (h.get? b).map fun o => (b, o)
theorem mem_pinsAt {fp : List Addr} {h : Heap} {b : Addr} {o : Obj} (hb : b ∈ fp) (e : h.get? b = some o) : (b, o) ∈ pinsAt fp h := List.mem_filterMap.mpr ⟨b, hb, by rw [e]; rfl⟩
theorem of_pinsAt {fp : List Addr} {h : Heap} {p : Addr × Obj} (hp : p ∈ pinsAt fp h) : p.1 ∈ fp ∧ h.get? p.1 = some p.2 := by
  obtain ⟨b, hb, e⟩ := List.mem_filterMap.mp hp
  cases q : h.get? b with
  | none => rw [q] at e; cases e
  | some o =>
    rw [q] at e
    have e' : (b, o) = p := Option.some.inj e
    subst e'
    exact ⟨hb, q⟩
theorem Inv.pinned {pins : List (Addr × Obj)} {σ : St} {H : Hp} {s : Shared} {fp : List Addr} (I : Inv X pins σ H s) (hf : ∀ b ∈ fp, FpOk X pins H b) (ho : ∀ b ∈ fp, ∃ o, s.heap.get? b = some o ∧ ∀ v, o.data ≠ .cell v) : Inv X (pins ++ pinsAt fp s.heap) σ H s :=
  I.pins_of fun p hp => (List.mem_append.mp hp).elim (fun z => I.pin p (List.mem_append_right _ z)) fun z => by
    obtain ⟨hb, e⟩ := of_pinsAt z
    obtain ⟨f0, f1, f2, _⟩ := hf p.1 hb
    obtain ⟨o, e', d⟩ := ho p.1 hb
    rw [e] at e'; cases e'
    exact ⟨e, f0, f1, f2, d⟩
theorem Inv.unpinned {pins pl : List (Addr × Obj)} {σ : St} {H : Hp} {s : Shared} (I : Inv X (pins ++ pl) σ H s) : Inv X pins σ H s := I.pins_of fun p hp => I.pin p (List.mem_append_right _ (List.mem_append_left _ hp))
theorem ps_for {iter : Expr} {body : List Stmt} {wi : TI} {g : TG} {tb : TS} {pos : Pos} (hp : PassesOwn (model X.prog X.w) X.A X.env X.xe) (hc : X.calm = true) (hi : PI X tg iter wi) (hg : PG X tg g) (hb : PSs X body tb)
    (hs : ∀ x, foldedSetIterable iter X.env x = pure x := by intro _; rfl) : PS X (.For tg iter body [] pos) (tFor wi g tb) := by
  intro pins s σ H D I h
  refine wpAny_For (thn (hi pins s σ H _ I h) fun v s1 h1 => thn h1 fun itv s2 h2 => ?_) hs
  obtain ⟨it, fp, tn, J, H2, e, I2, T, st2, f2, W, ⟨m0, w0⟩, turn⟩ := h2
  subst e
  -- what stays true of the iterator's objects through the loop
  have stat : ∀ {H' : Hp}, (∀ b ∈ fp, H' b = none) → ∀ b ∈ fp, FpOk X pins H' b := fun hn b hb => ⟨hn b hb, (f2 b hb).2⟩
  refine codeAny_forLoop_any (fun n s' => ∃ i σ' H', Inv X pins σ' H' s' ∧ tn i s'.heap ∧ (∀ b ∈ fp, H' b = none) ∧ W i n σ' H') ?_ m0 ⟨0, σ, H2, I2, st2, fun b hb => (f2 b hb).1, w0⟩
  rintro n s3 ⟨i, σ3, H3, I3, st3, fr3, w3⟩
  rcases turn i n σ3 H3 w3 with ⟨stop, qn⟩ | ⟨go, N, hN, step⟩
  · refine wpAny_passesOwn hp (thn (T.done X rfl rfl rfl hc i pins s3 σ3 H3 X.xe I3 (stat fr3) st3 stop) fun r s4 ⟨hr, I4⟩ => ?_)
    subst hr
    exact wpAny_execs_nil ⟨σ3, H3, I4, qn⟩
  · refine wpAny_passesOwn hp (thn (T.item X rfl rfl rfl hc i pins s3 σ3 H3 X.xe I3 (stat fr3) st3 go) fun r s4 ⟨u, hr, h4⟩ => ?_)
    subst hr
    refine wpAny_passesOwn hp (thn h4 fun _ s5 ⟨x, H5, I5, r5, y5, st5, fr5⟩ => ?_)
    have I5' := I5.pinned (stat fr5) (T.obj _ _ st5)
    refine wpAny_passesOwn hp (thn (hg _ s5 σ3 H5 x u _ I5' r5 (step x H5 y5)) fun _ s6 ⟨σ6, H6, I6, q6⟩ => ?_)
    refine wpAny_passesOwn hp (thn (hb _ s6 σ6 H6 _ I6 q6) fun f s7 q7 => ?_)
    have again : ∀ {σ7 : St} {H7 : Hp}, Inv X (pins ++ pinsAt fp s5.heap) σ7 H7 s7 → N σ7 H7 → ∃ m, m < n ∧ ∃ i σ' H', Inv X pins σ' H' s7 ∧ tn i s7.heap ∧ (∀ b ∈ fp, H' b = none) ∧ W i m σ' H' := fun {σ7 H7} I7 n7 => by
      obtain ⟨m', hm, w7⟩ := hN σ7 H7 n7
      refine ⟨m', hm, i + 1, σ7, H7, I7.unpinned, T.keep _ _ _ st5 fun b hb o e => (I7.pin (b, o) (List.mem_append_right _ (List.mem_append_right _ (mem_pinsAt hb e)))).1, fun b hb => ?_, w7⟩
      obtain ⟨o, e, d⟩ := T.obj _ _ st5 b hb
      exact (I7.pin (b, o) (List.mem_append_right _ (List.mem_append_right _ (mem_pinsAt hb e)))).2.1
    cases f with
    | next => obtain ⟨σ7, H7, I7, n7⟩ := q7; exact again I7 n7
    | cont => obtain ⟨σ7, H7, I7, n7⟩ := q7; exact again I7 n7
    | brk => obtain ⟨σ7, H7, I7, q7⟩ := q7; exact ⟨σ7, H7, I7.unpinned, q7⟩
    | ret v => obtain ⟨x7, σ7, H7, I7, r7, q7⟩ := q7; exact ⟨x7, σ7, H7, I7.unpinned, r7, q7⟩
end
end L2
namespace L2
open PySem PySem.Spec PyProof.Rows
abbrev R2 := V → V → Hp → VK → Prop
def OpR (X : Cx) (f : Value → Value → Sem Value) (r : R2) : Prop :=
  ∀ (pins : List (Addr × Obj)) (s : Shared) (σ : St) (H : Hp) (x y : V) (v u : Value) (Q : VK), Inv X pins σ H s → RelV x v → RelV y u → r x y H Q →
    wpAny (model X.prog X.w) X.A (f v u) (EP X pins σ Q) X.xe s
def UnR (X : Cx) (f : Value → Sem Value) (r : V → Hp → VK → Prop) : Prop :=
  ∀ (pins : List (Addr × Obj)) (s : Shared) (σ : St) (H : Hp) (x : V) (v : Value) (Q : VK), Inv X pins σ H s → RelV x v → r x H Q →
    wpAny (model X.prog X.w) X.A (f v) (EP X pins σ Q) X.xe s
def CallR (X : Cx) (f : Value) (r : List V → Hp → VK → Prop) : Prop :=
  ∀ (pins : List (Addr × Obj)) (s : Shared) (σ : St) (H : Hp) (xs : List V) (us : List Value) (Q : VK), Inv X pins σ H s → Vals xs us → r xs H Q →
    wpAny (model X.prog X.w) X.A (call f us) (EP X pins σ Q) X.xe s
def TruR (X : Cx) (r : V → Hp → (Bool → Hp → Prop) → Prop) : Prop :=
  ∀ (pins : List (Addr × Obj)) (s : Shared) (σ : St) (H : Hp) (x : V) (v : Value) (Q : Bool → Hp → Prop), Inv X pins σ H s → RelV x v → r x H Q →
    wpAny (model X.prog X.w) X.A (truthy v) (TP X pins σ Q) X.xe s
def tOp (r : R2) (ta tb : TE) : TE := fun σ H Q => ta σ H fun x H1 => tb σ H1 fun y H2 => r x y H2 Q
def tUn (r : V → Hp → VK → Prop) (ta : TE) : TE := fun σ H Q => ta σ H fun x H1 => r x H1 Q
def rI (C : Int → Int → Prop) (g : Int → Int → V) : R2 := fun x y H Q => ∃ i j, x = .int i ∧ y = .int j ∧ C i j ∧ Q (g i j) H
def rI0 (g : Int → Int → V) : R2 := fun x y H Q => ∃ i j, x = .int i ∧ y = .int j ∧ Q (g i j) H
def rU (g : Int → V) : V → Hp → VK → Prop := fun x H Q => ∃ i, x = .int i ∧ Q (g i) H
section
variable {X : Cx} {a b c : Expr} {ta tb tc : TE} {pos : Pos}
theorem binT (ha : PE X a ta) (hb : PE X b tb) {pins : List (Addr × Obj)} {s : Shared} {σ : St} {H : Hp} {R : V → V → Hp → Prop} (I : Inv X pins σ H s)
    (h : ta σ H fun x H1 => tb σ H1 fun y H2 => R x y H2) {Q : Value → Shared → Prop} {f : Value → Value → Sem Value}
    (hf : ∀ v u s2 x y H2, Inv X pins σ H2 s2 → RelV x v → RelV y u → R x y H2 → wpAny (model X.prog X.w) X.A (f v u) Q X.xe s2) :
    wpAny (model X.prog X.w) X.A (eval a X.env) (fun v s₁ => wpAny (model X.prog X.w) X.A (eval b X.env) (fun u s₂ => wpAny (model X.prog X.w) X.A (f v u) Q X.xe s₂) X.xe s₁) X.xe s := by
  refine thn (ha pins s σ H _ I h) fun v s1 ⟨x, H1, I1, r1, q1⟩ => ?_
  refine thn (hb pins s1 σ H1 _ I1 q1) fun u s2 ⟨y, H2, I2, r2, q2⟩ => ?_
  exact hf v u s2 x y H2 I2 r1 r2 q2
theorem pe_op {op : Operator} {r : R2} (ho : OpR X (binaryOp op) r) (ha : PE X a ta) (hb : PE X b tb) : PE X (.BinOp a op b pos) (tOp r ta tb) := by
  intro pins s σ H Q I h
  exact wpAny_BinOp (binT ha hb I h fun v u s2 x y H2 I2 rx ry q => ho pins s2 σ H2 x y v u Q I2 rx ry q)
theorem pe_un {op : UnaryOp} {r : V → Hp → VK → Prop} (ho : UnR X (unaryOp op) r) (ha : PE X a ta) : PE X (.UnaryOp op a pos) (tUn r ta) := by
  intro pins s σ H Q I h
  exact UnaryOp_ (thn (ha pins s σ H _ I h) fun v s1 ⟨x, H1, I1, r1, q1⟩ => ho pins s1 σ H1 x v Q I1 r1 q1)
theorem opI {f : Value → Value → Sem Value} {C : Int → Int → Prop} {g : Int → Int → Int}
    (rule : ∀ (i j : Int) (t u : Tok) (s : Shared) (Q : Value → Shared → Prop) (E : Value → Shared → Prop), C i j → Q (.int (g i j) s.toks) { s with toks := s.toks + 1 } → wpAny (model X.prog X.w) X.A (f (.int i t) (.int j u)) Q E s) :
    OpR X f (rI C fun i j => .int (g i j)) := by
  intro pins s σ H x y v u Q I rx ry h
  obtain ⟨i, j, rfl, rfl, hc, q⟩ := h
  obtain ⟨t, rfl⟩ := rx
  obtain ⟨t', rfl⟩ := ry
  exact rule i j t t' s _ _ hc ⟨.int (g i j), H, I.tok _, ⟨_, rfl⟩, q⟩
theorem opI0 {f : Value → Value → Sem Value} {g : Int → Int → Int}
    (rule : ∀ (i j : Int) (t u : Tok) (s : Shared) (Q : Value → Shared → Prop) (E : Value → Shared → Prop), Q (.int (g i j) s.toks) { s with toks := s.toks + 1 } → wpAny (model X.prog X.w) X.A (f (.int i t) (.int j u)) Q E s) :
    OpR X f (rI0 fun i j => .int (g i j)) := by
  intro pins s σ H x y v u Q I rx ry h
  obtain ⟨i, j, rfl, rfl, q⟩ := h
  obtain ⟨t, rfl⟩ := rx
  obtain ⟨t', rfl⟩ := ry
  exact rule i j t t' s _ _ ⟨.int (g i j), H, I.tok _, ⟨_, rfl⟩, q⟩
theorem opB0 {f : Value → Value → Sem Value} {g : Int → Int → Bool}
    (rule : ∀ (i j : Int) (t u : Tok) (s : Shared) (Q : Value → Shared → Prop) (E : Value → Shared → Prop), Q (.bool (g i j)) s → wpAny (model X.prog X.w) X.A (f (.int i t) (.int j u)) Q E s) :
    OpR X f (rI0 fun i j => .bl (g i j)) := by
  intro pins s σ H x y v u Q I rx ry h
  obtain ⟨i, j, rfl, rfl, q⟩ := h
  obtain ⟨t, rfl⟩ := rx
  obtain ⟨t', rfl⟩ := ry
  exact rule i j t t' s _ _ ⟨.bl (g i j), H, I, rfl, q⟩
def CDiv (i j : Int) : Prop := 0 < j ∧ j < 1073741824
def CMul (i j : Int) : Prop := (-(2 ^ 64) < i ∧ i < 2 ^ 64) ∨ (-(2 ^ 64) < j ∧ j < 2 ^ 64)
theorem CMul.ok {i j : Int} (h : CMul i j) : IntMulOk i j := by
  rcases h with ⟨h1, h2⟩ | ⟨h1, h2⟩
  · exact .of_left (intBits_le_64 h1 h2)
  · exact .of_right (intBits_le_64 h1 h2)
theorem op_add : OpR X (binaryOp .Add) (rI0 fun i j => .int (i + j)) := opI0 fun _ _ _ _ _ _ _ q => add_int q
theorem op_sub : OpR X (binaryOp .Sub) (rI0 fun i j => .int (i - j)) := opI0 fun _ _ _ _ _ _ _ q => sub_int q
theorem op_mul : OpR X (binaryOp .Mult) (rI CMul fun i j => .int (i * j)) := opI fun _ _ _ _ _ _ _ hc q => mul_int q hc.ok
theorem op_fdiv : OpR X (binaryOp .FloorDiv) (rI CDiv fun i j => .int (i / j)) := opI fun i j _ _ _ _ _ hc q => by
  have h1 : (0 : Int) < j := hc.1
  have h2 : j < 1073741824 := hc.2
  exact floordiv_int (by omega) (by rw [Int.fdiv_eq_ediv_of_nonneg i (by omega)]; exact q) (.inl (PyProof.noPylong_small (by omega)))
theorem op_mod : OpR X (binaryOp .Mod) (rI (fun _ j => 0 < j) fun i j => .int (i % j)) := opI fun i j _ _ _ _ _ hc q => by
  have h1 : (0 : Int) < j := hc
  exact mod_int' (by omega) (by rw [Int.fmod_eq_emod_of_nonneg i (by omega)]; exact q)
theorem unI {f : Value → Sem Value} {g : Int → Int}
    (rule : ∀ (i : Int) (t : Tok) (s : Shared) (Q : Value → Shared → Prop) (E : Value → Shared → Prop), Q (.int (g i) s.toks) { s with toks := s.toks + 1 } → wpAny (model X.prog X.w) X.A (f (.int i t)) Q E s) :
    UnR X f (rU fun i => .int (g i)) := by
  intro pins s σ H x v Q I rx h
  obtain ⟨i, rfl, q⟩ := h
  obtain ⟨t, rfl⟩ := rx
  exact rule i t s _ _ ⟨.int (g i), H, I.tok _, ⟨_, rfl⟩, q⟩
theorem un_neg : UnR X (unaryOp .USub) (rU fun i => .int (-i)) := unI fun _ _ _ _ _ q => neg_int q
end
def scal : V → V → Bool
  | .non, .non => true | .non, .int _ => true | .int _, .non => true | .non, .bl _ => true | .bl _, .non => true | .non, .str _ => true | .str _, .non => true
  | .int _, .int _ => true | .bl _, .bl _ => true | .str _, .str _ => true | .byt _, .byt _ => true
  | .int _, .str _ => true | .str _, .int _ => true | .bl _, .str _ => true | .str _, .bl _ => true
  | _, _ => false
def rEq : R2 := fun x y H Q => scal x y = true ∧ Q (.bl (decide (x = y))) H
def rNe : R2 := fun x y H Q => scal x y = true ∧ Q (.bl (!decide (x = y))) H
theorem dec_int {i j : Int} : decide (V.int i = V.int j) = (i == j) := by
  rw [Bool.eq_iff_iff]
  simp
theorem dec_bl {i j : Bool} : decide (V.bl i = V.bl j) = (i == j) := by
  rw [Bool.eq_iff_iff]
  simp
theorem dec_str {i j : Str} : decide (V.str i = V.str j) = (i == j) := by
  rw [Bool.eq_iff_iff]
  simp
theorem dec_byt {i j : Array UInt8} : decide (V.byt i = V.byt j) = (i.toList == j.toList) := by
  rw [Bool.eq_iff_iff]
  cases i
  cases j
  simp
section
variable {X : Cx} {a b c : Expr} {ta tb tc : TE} {pos : Pos}
theorem fin_bl {pins : List (Addr × Obj)} {σ : St} {H : Hp} {s : Shared} {Q : VK} {k k' : Bool} (I : Inv X pins σ H s) (q : Q (.bl k) H) (e : k = k') : EP X pins σ Q (.bool k') s := by
  subst e
  exact ⟨.bl k, H, I, rfl, q⟩
theorem op_eq : OpR X (compareOp .Eq) rEq := by
  intro pins s σ H x y v u Q I rx ry h
  obtain ⟨hs, q⟩ := h
  cases x with
  | non =>
    cases rx
    cases y with
    | non => cases ry; exact PySem.EqNone.eq_none_none (fin_bl I q (by simp))
    | bl j => cases ry; exact PySem.EqNone.eq_none_bool (fin_bl I q (by simp))
    | int j => obtain ⟨t', rfl⟩ := ry; exact PySem.EqNone.eq_none_int (fin_bl I q (by simp))
    | str j => obtain ⟨t', rfl⟩ := ry; exact PySem.EqNone.eq_none_str (fin_bl I q (by simp))
    | _ => exact absurd (show false = true from hs) Bool.false_ne_true
  | bl i =>
    cases rx
    cases y with
    | non => cases ry; exact PySem.EqNone.eq_bool_none (fin_bl I q (by simp))
    | bl j => cases ry; exact eq_bool (fin_bl I q dec_bl)
    | str j => obtain ⟨t', rfl⟩ := ry; exact PySem.EqMixed.eq_bool_str (fin_bl I q (by simp))
    | _ => exact absurd (show false = true from hs) Bool.false_ne_true
  | int i =>
    obtain ⟨t, rfl⟩ := rx
    cases y with
    | non => cases ry; exact PySem.EqNone.eq_int_none (fin_bl I q (by simp))
    | int j => obtain ⟨t', rfl⟩ := ry; exact eq_int (fin_bl I q dec_int)
    | str j => obtain ⟨t', rfl⟩ := ry; exact PySem.EqMixed.eq_int_str (fin_bl I q (by simp))
    | _ => exact absurd (show false = true from hs) Bool.false_ne_true
  | str i =>
    obtain ⟨t, rfl⟩ := rx
    cases y with
    | non => cases ry; exact PySem.EqNone.eq_str_none (fin_bl I q (by simp))
    | bl j => cases ry; exact PySem.EqMixed.eq_str_bool (fin_bl I q (by simp))
    | int j => obtain ⟨t', rfl⟩ := ry; exact PySem.EqMixed.eq_str_int (fin_bl I q (by simp))
    | str j => obtain ⟨t', rfl⟩ := ry; exact eq_str (fin_bl I q dec_str)
    | _ => exact absurd (show false = true from hs) Bool.false_ne_true
  | byt i =>
    obtain ⟨t, rfl⟩ := rx
    cases y with
    | byt j => obtain ⟨t', rfl⟩ := ry; exact PySem.W.eq_bytes (fin_bl I q dec_byt)
    | _ => exact absurd (show false = true from hs) Bool.false_ne_true
  | _ => cases y <;> exact absurd (show false = true from hs) Bool.false_ne_true
theorem op_ne : OpR X (compareOp .NotEq) rNe := by
  intro pins s σ H x y v u Q I rx ry h
  obtain ⟨hs, q⟩ := h
  cases x with
  | non =>
    cases rx
    cases y with
    | non => cases ry; exact PySem.EqNone.ne_none_none (fin_bl I q (by simp))
    | bl j => cases ry; exact PySem.EqNone.ne_none_bool (fin_bl I q (by simp))
    | int j => obtain ⟨t', rfl⟩ := ry; exact PySem.EqNone.ne_none_int (fin_bl I q (by simp))
    | str j => obtain ⟨t', rfl⟩ := ry; exact PySem.EqNone.ne_none_str (fin_bl I q (by simp))
    | _ => exact absurd (show false = true from hs) Bool.false_ne_true
  | bl i =>
    cases rx
    cases y with
    | non => cases ry; exact PySem.EqNone.ne_bool_none (fin_bl I q (by simp))
    | bl j => cases ry; exact ne_bool (fin_bl I q (congrArg not dec_bl))
    | str j => obtain ⟨t', rfl⟩ := ry; exact PySem.EqMixed.ne_bool_str (fin_bl I q (by simp))
    | _ => exact absurd (show false = true from hs) Bool.false_ne_true
  | int i =>
    obtain ⟨t, rfl⟩ := rx
    cases y with
    | non => cases ry; exact PySem.EqNone.ne_int_none (fin_bl I q (by simp))
    | int j => obtain ⟨t', rfl⟩ := ry; exact ne_int (fin_bl I q (congrArg not dec_int))
    | str j => obtain ⟨t', rfl⟩ := ry; exact PySem.EqMixed.ne_int_str (fin_bl I q (by simp))
    | _ => exact absurd (show false = true from hs) Bool.false_ne_true
  | str i =>
    obtain ⟨t, rfl⟩ := rx
    cases y with
    | non => cases ry; exact PySem.EqNone.ne_str_none (fin_bl I q (by simp))
    | bl j => cases ry; exact PySem.EqMixed.ne_str_bool (fin_bl I q (by simp))
    | int j => obtain ⟨t', rfl⟩ := ry; exact PySem.EqMixed.ne_str_int (fin_bl I q (by simp))
    | str j => obtain ⟨t', rfl⟩ := ry; exact ne_str (fin_bl I q (congrArg not dec_str))
    | _ => exact absurd (show false = true from hs) Bool.false_ne_true
  | byt i =>
    obtain ⟨t, rfl⟩ := rx
    cases y with
    | byt j => obtain ⟨t', rfl⟩ := ry; exact PySem.W.ne_bytes (fin_bl I q (congrArg not dec_byt))
    | _ => exact absurd (show false = true from hs) Bool.false_ne_true
  | _ => cases y <;> exact absurd (show false = true from hs) Bool.false_ne_true
theorem op_lt : OpR X (compareOp .Lt) (rI0 fun i j => .bl (decide (i < j))) := opB0 fun _ _ _ _ _ _ _ q => lt_int q
theorem op_le : OpR X (compareOp .LtE) (rI0 fun i j => .bl (decide (i ≤ j))) := opB0 fun _ _ _ _ _ _ _ q => le_int q
theorem op_gt : OpR X (compareOp .Gt) (rI0 fun i j => .bl (decide (j < i))) := opB0 fun _ _ _ _ _ _ _ q => gt_int q
theorem nomark (b : Expr) {op : CmpOp} (h : op ≠ .In := by decide) (h2 : op ≠ .NotIn := by decide) : behindInMarks op b = false := by
  have e1 : (op == CmpOp.In) = false := by cases op <;> first | rfl | exact absurd rfl h
  have e2 : (op == CmpOp.NotIn) = false := by cases op <;> first | rfl | exact absurd rfl h2
  cases b <;> simp [behindInMarks, e1, e2]
theorem pe_cmpR {op : CmpOp} {r : R2} (ho : OpR X (compareOp op) r) (ha : PE X a ta) (hb : PE X b tb) (hm : behindInMarks op b = false) : PE X (.Compare a [op] [b] pos) (tOp r ta tb) := by
  intro pins s σ H Q I h
  exact wpAny_Compare1 (binT ha hb I h fun v u s2 x y H2 I2 rx ry q => ho pins s2 σ H2 x y v u Q I2 rx ry q) hm
def tTest (t : TE) : TT := fun σ H Q => t σ H fun x H' => ∃ k, x = .bl k ∧ Q k H'
theorem pt_cmpR {op : CmpOp} {r : R2} (ho : OpR X (compareOp op) r) (ha : PE X a ta) (hb : PE X b tb) (hm : behindInMarks op b = false) : PT X (.Compare a [op] [b] pos) (tTest (tOp r ta tb)) := by
  intro pins s σ H Q I h
  refine wpAny_isTrue_Compare1 (thn (ha pins s σ H _ I h) fun v s1 ⟨x, H1, I1, r1, q1⟩ => thn (hb pins s1 σ H1 _ I1 q1) fun u s2 ⟨y, H2, I2, r2, q2⟩ =>
    thn (ho pins s2 σ H2 x y v u _ I2 r1 r2 q2) fun c s3 ⟨z, H3, I3, r3, k, e, q3⟩ => ?_) hm
  subst e
  cases r3
  exact wpAny_truthy_bool ⟨H3, I3, q3⟩
def tChain (r r' : R2) (ta tb tc : TE) : TE := fun σ H Q => ta σ H fun x H1 => tb σ H1 fun y H2 => r x y H2 fun z H3 => ∃ k, z = .bl k ∧
  (if k = true then tc σ H3 fun w' H4 => r' y w' H4 Q else Q (.bl false) H3)
theorem pe_chain {op op' : CmpOp} {r r' : R2} (ho : OpR X (compareOp op) r) (ho' : OpR X (compareOp op') r') (ha : PE X a ta) (hb : PE X b tb) (hc : PE X c tc)
    (hm : lastMarks [op, op'] [b, c] = false := by with_unfolding_all rfl) : PE X (.Compare a [op, op'] [b, c] pos) (tChain r r' ta tb tc) := by
  intro pins s σ H Q I h
  refine Compare_chain (thn (ha pins s σ H _ I h) fun v s1 ⟨x, H1, I1, r1, q1⟩ => chain_link (thn (hb pins s1 σ H1 _ I1 q1) fun u s2 ⟨y, H2, I2, r2, q2⟩ =>
    thn (ho pins s2 σ H2 x y v u _ I2 r1 r2 q2) fun d s3 ⟨z, H3, I3, r3, k, e, q3⟩ => ?_)) hm
  subst e
  cases r3
  refine wpAny_truthy_bool ?_
  cases k with
  | false => exact ite_ff ⟨.bl false, H3, I3, rfl, q3⟩
  | true => exact ite_tt (chain_last (thn (hc pins s3 σ H3 _ I3 q3) fun w' s4 ⟨z', H4, I4, r4, q4⟩ => ho' pins s4 σ H4 y z' u w' Q I4 r2 r4 q4))
def TruV (K : PySem.W.Frag) (x : V) (H : Hp) (k : Bool) : Prop :=
  match x with
  | .non => k = false
  | .bl b => k = b
  | .int i => k = (i != 0)
  | .str y => y.length ≤ sizeLine ∧ k = ((y.length : Int) != 0)
  | .byt y => y.size ≤ sizeLine ∧ k = ((y.size : Int) != 0)
  | .ref p => (∃ xs, SqL K H p xs ∧ k = !xs.isEmpty) ∨ (∃ xs, SqT K H p xs ∧ k = !xs.isEmpty) ∨ ∃ kvs, H p = some (.dK kvs) ∧ k = !kvs.isEmpty
  | _ => False
theorem isEmpty_kv {κ : Type} {kvs : List (κ × V)} {vs : List (κ × Value)} (r : KV kvs vs) : (!vs.isEmpty) = !kvs.isEmpty := by
  cases r <;> rfl
theorem isEmpty_of {xs : List V} {its : List Value} (r : Vals xs its) : (!its.toArray.isEmpty) = !xs.isEmpty := by
  cases r <;> simp
theorem line63 : (sizeLine : Nat) < 2 ^ 63 := by rw [sizeLine_eq]; decide
theorem tru_ok : TruR X (fun x H Q => ∃ k, TruV X.K x H k ∧ Q k H) := by
  intro pins s σ H x v Q I rx h
  obtain ⟨k, e, q⟩ := h
  have hl := line63
  have hs : sizeLine = 16777216 := sizeLine_eq
  cases x with
  | non =>
    cases rx
    have e' : k = false := e
    subst e'
    exact truthy_none ⟨H, I, q⟩
  | bl b =>
    cases rx
    have e' : k = b := e
    subst e'
    exact wpAny_truthy_bool ⟨H, I, q⟩
  | int i =>
    obtain ⟨t, rfl⟩ := rx
    have e' : k = (i != 0) := e
    subst e'
    exact PySem.P.truthy_int ⟨H, I, q⟩
  | str y =>
    obtain ⟨t, rfl⟩ := rx
    obtain ⟨hy, e'⟩ : y.length ≤ sizeLine ∧ k = ((y.length : Int) != 0) := e
    subst e'
    exact PySem.P.truthy_str (by omega) ⟨H, I.tok _, q⟩
  | byt y =>
    obtain ⟨t, rfl⟩ := rx
    obtain ⟨hy, e'⟩ : y.size ≤ sizeLine ∧ k = ((y.size : Int) != 0) := e
    subst e'
    exact PySem.W.truthy_bytes (by omega) ⟨H, I.tok _, q⟩
  | ref p =>
    cases rx
    have e' : (∃ xs, SqL X.K H p xs ∧ k = !xs.isEmpty) ∨ (∃ xs, SqT X.K H p xs ∧ k = !xs.isEmpty) ∨ ∃ kvs, H p = some (.dK kvs) ∧ k = !kvs.isEmpty := e
    rcases e' with ⟨xs, hx, e'⟩ | ⟨xs, hx, e'⟩ | ⟨kvs, hx, e'⟩
    · subst e'
      obtain ⟨its, r, pl, hz⟩ := I.list hx
      have hlen := r.length
      exact wpAny_truthy_list pl.isList (by simp only [List.size_toArray]; omega) ⟨H, I.tok _, by rw [isEmpty_of r]; exact q⟩
    · subst e'
      obtain ⟨its, r, pl, hz⟩ := I.tuple hx
      have hlen := r.length
      exact truthy_tuple pl (by simp only [List.size_toArray]; omega) ⟨H, I.tok _, by rw [isEmpty_of r]; exact q⟩
    · subst e'
      obtain ⟨hz, hS, vs, r, m⟩ : kvs.length ≤ sizeLine ∧ (p == sysModules) = false ∧ ∃ vs, KV kvs vs ∧ s.heap.DictOf (mixKind X.prog X.w) p vs := I.hok p _ hx
      have hlen : kvs.length = vs.length := Paired.length r
      exact wpAny_truthy_dict hS m (by omega) ⟨H, I.tok _, by rw [isEmpty_kv r]; exact q⟩
  | _ => exact (show False from e).elim
theorem pt_truth (ha : PE X a ta) (he : ∀ whole, isTrue a X.env whole = (do let v ← whole; standAt a.pos; holding [v] (truthy v))) :
    PT X a (fun σ H Q => ta σ H fun x H' => ∃ k, TruV X.K x H' k ∧ Q k H') := by
  intro pins s σ H Q I h
  exact isTrue_plain (thn (ha pins s σ H _ I h) fun v s1 ⟨x, H1, I1, r1, q1⟩ => tru_ok pins s1 σ H1 x v Q I1 r1 q1) (he _)
theorem vals1 {x : V} {us : List Value} (r : Vals [x] us) : ∃ u, us = [u] ∧ RelV x u := by
  cases r with
  | cons r1 r2 => cases r2; exact ⟨_, rfl, r1⟩
theorem vals2 {x y : V} {us : List Value} (r : Vals [x, y] us) : ∃ u w', us = [u, w'] ∧ RelV x u ∧ RelV y w' := by
  cases r with
  | cons r1 r2 =>
    cases r2 with
    | cons r3 r4 => cases r4; exact ⟨_, _, rfl, r1, r3⟩
theorem call_abs : CallR X (.builtin "abs") (fun xs H Q => ∃ i, xs = [.int i] ∧ Q (.int (if i < 0 then -i else i)) H) := by
  intro pins s σ H xs us Q I r h
  obtain ⟨i, rfl, q⟩ := h
  obtain ⟨u, rfl, t, rfl⟩ := vals1 r
  exact call_abs_int fun u tk => ⟨.int (if i < 0 then -i else i), H, I.tok _, ⟨_, rfl⟩, q⟩
theorem call_max2 (hc : X.calm = true) : CallR X (.builtin "max") (fun xs H Q => ∃ i j, xs = [.int i, .int j] ∧ Q (.int (if j > i then j else i)) H) := by
  intro pins s σ H xs us Q I r h
  obtain ⟨i, j, rfl, q⟩ := h
  obtain ⟨u, w', rfl, ⟨t, rfl⟩, ⟨t', rfl⟩⟩ := vals2 r
  refine max_two_ints (I.ok.hd hc) fun h' tk k => ⟨_, H, I.kept k, ?_, q⟩
  by_cases hj : j > i
  · rw [if_pos hj, if_pos hj]; exact ⟨_, rfl⟩
  · rw [if_neg hj, if_neg hj]; exact ⟨_, rfl⟩
theorem call_min2 (hc : X.calm = true) : CallR X (.builtin "min") (fun xs H Q => ∃ i j, xs = [.int i, .int j] ∧ Q (.int (if j < i then j else i)) H) := by
  intro pins s σ H xs us Q I r h
  obtain ⟨i, j, rfl, q⟩ := h
  obtain ⟨u, w', rfl, ⟨t, rfl⟩, ⟨t', rfl⟩⟩ := vals2 r
  refine min_two_ints (I.ok.hd hc) fun h' tk k => ⟨_, H, I.kept k, ?_, q⟩
  by_cases hj : j < i
  · rw [if_pos hj, if_pos hj]; exact ⟨_, rfl⟩
  · rw [if_neg hj, if_neg hj]; exact ⟨_, rfl⟩
theorem call_int1 : CallR X (.type "int") (fun xs H Q => (∃ i, xs = [.int i] ∧ Q (.int i) H) ∨ ∃ k, xs = [.bl k] ∧ Q (.int (if k then 1 else 0)) H) := by
  intro pins s σ H xs us Q I r h
  rcases h with ⟨i, rfl, q⟩ | ⟨k, rfl, q⟩
  · obtain ⟨u, rfl, t, rfl⟩ := vals1 r
    exact call_int_int ⟨.int i, H, I, ⟨_, rfl⟩, q⟩
  · obtain ⟨u, rfl, r1⟩ := vals1 r
    cases r1
    exact call_int_bool ⟨.int (if k then 1 else 0), H, I.tok _, ⟨_, rfl⟩, q⟩
end
end L2
namespace L2
open PySem PySem.Spec PyProof.Rows
structure ObjM (h : Heap) (x dx C : Addr) (mA : Str → Option Value) : Prop where
  obj : h.get? x = some (PySem.W.instObj C dx)
  ns : h.Ns1 dx mA
  ne : dx ≠ x
theorem lookIn_ns {h : Heap} {dx : Addr} {mA : Str → Option Value} (n : h.Ns1 dx mA) : ∃ od, h.get? dx = some od ∧ ∀ name, PySem.W.lookIn name od = some (mA name) := by
  obtain ⟨o, es, ep, ho, hd, hk, _, hm⟩ := n
  refine ⟨o, ho, fun name => ?_⟩
  have e := hm name
  unfold nsFind findBy at e
  rw [← Array.find?_toList] at e
  unfold PySem.W.lookIn
  rw [hd]
  dsimp only
  split
  · rename_i y q
    rw [q] at e
    exact congrArg some e
  · rename_i q
    rw [q] at e
    have a : es.toList.any (·.refKey) = false := by
      rw [List.any_eq_false]
      intro y hy
      obtain ⟨z, t, hkey⟩ := hk y (Array.mem_toList_iff.mp hy)
      simp [DictEntry.refKey, hkey]
    have a' : ¬ es.toList.any (·.refKey) = true := by rw [a]; exact Bool.false_ne_true
    rw [if_neg a']
    exact congrArg some e
theorem ObjM.look {h : Heap} {x dx C : Addr} {mA : Str → Option Value} (I : ObjM h x dx C mA) : ∃ od, PySem.W.InstAt h x (PySem.W.instObj C dx) C (some od) ∧ ∀ name, PySem.W.lookIn name od = some (mA name) :=
  let ⟨od, ho, hl⟩ := lookIn_ns I.ns
  ⟨od, ⟨I.obj, rfl, rfl, ho⟩, hl⟩
section
variable {prog : Program} {w : World} {A : Around} {E : Value → Shared → Prop} {s : Shared} {K : PySem.W.Frag} {x dx C f : Addr} {mA : Str → Option Value} {name : Str} {v : Value}
theorem get_map {expr : Bool} {Q : Value → Shared → Prop} (X : K.In s.heap) (I : ObjM s.heap x dx C mA) (hg : PySem.W.plainGet K C name = true) (hh : PySem.W.hasDictIn K C = true)
    (ha : PySem.W.findIn K (.ref C) name = some none) (hv : mA name = some v) (hv' : PySem.W.handedIn v = true) (h : Q v { s with toks := s.toks + 1 }) :
    wpAny (model prog w) A (getAttr (.ref x) name expr) Q E s := by
  obtain ⟨od, J, hl⟩ := I.look
  exact PySem.W.get_value X J (PySem.W.plainGet_of hg).1 (PySem.W.findObj_own hh ha rfl (by rw [hl, hv])) hv' h
theorem get_meth {pl : Sem Bool} {Q : Value × List Value → Shared → Prop} (X : K.In s.heap) (I : ObjM s.heap x dx C mA) (hg : PySem.W.plainGet K C name = true)
    (hf : PySem.W.findIn K (.ref C) name = some (some (.ref f))) (ht : PySem.W.isFn K (.ref f) = true) (hv : mA name = none) (h : Q (.ref f, [.ref x]) s) :
    wpAny (model prog w) A (getMethod (.ref x) name pl) Q E s := by
  obtain ⟨od, J, hl⟩ := I.look
  exact PySem.W.method_fn X J (PySem.W.plainGet_of hg).1 (PySem.W.plainGet_of hg).2 hf (beq_iff_eq.mp ht) (by show (PySem.W.lookIn name od).map (·.isSome) = some false; rw [hl, hv]; rfl) h
theorem set_map {ns : List Str} {Q : Unit → Shared → Prop} (X : K.In s.heap) (I : ObjM s.heap x dx C mA)
    (hs : PySem.W.findIn K (.ref C) "__setattr__" = some (some (.builtin "object.__setattr__"))) (hp : PySem.W.plainOver K C = true) (ht : PySem.W.takerIn K C name = some none) (hh : PySem.W.hasDictIn K C = true)
    (hw : PySem.Within mA ns) (hsz : ns.length ≤ sizeLine)
    (h : ∀ h', ObjM h' x dx C (fun y => if y = name then some v else mA y) → Heap.SameBut dx s.heap h' → Q () { s with heap := h', toks := s.toks + 2 }) :
    wpAny (model prog w) A (setAttr (.ref x) name v) Q E s := by
  obtain ⟨od, J, hl⟩ := I.look
  refine PySem.W.set_plain X J hs (PySem.W.osa_open (s := { s with toks := s.toks + 1 }) (r := none) X J hp ht fun b => ?_)
  obtain ⟨cd, hc, hd'⟩ := PySem.W.any_some hh
  have hx : s.heap.get? x = some ⟨.ref C, some dx, .plain, #[]⟩ := I.obj
  refine wpAny_bind (wpAny_pure (wpAny_bind (wpAny_bind (wpAny_loadPart hx (wpAny_bind (PySem.W.Looks.here (s := { s with toks := s.toks + 1 }) (PySem.W.looks_clsIn X hc) ?_))))))
  rw [hd']
  refine wpAny_pure (a := some dx) (wpAny_bind (wpAny_pure (wpAny_bind ?_)))
  refine wpAny_nsSet1 (s := { s with toks := s.toks + 1 }) I.ns fun h' hn2 hs2 => ?_
  obtain ⟨oD, esD, epD, hoD, hdD, hcD⟩ := hn2.count (PySem.Within.cons name v hw)
  refine wpAny_bind (wpAny_lookBehind hoD (by rw [hdD]; exact pastItsLine_dict (Nat.le_trans hcD (by rw [List.length_cons]; omega))) ?_)
  exact wpAny_pure (h _ ⟨(hs2.2 _ (Ne.symm I.ne)).trans I.obj, hn2, I.ne⟩ hs2)
theorem make_map {R : Result → Shared → Prop} {vs : List Value} {kw : List (Str × Value)} (X : K.In s.heap) (hm : PySem.W.makesIn K C = true)
    (hi : PySem.W.findIn K (.ref C) "__init__" = some (some (.ref f))) (hf : PySem.W.typeIn K (.ref f) = some (.type "function"))
    (h : codeAny (model prog w) (A.under (.builtin "type.__call__" ⟨.ref C :: vs, kw⟩)) (.call (.ref f) ⟨.ref (s.heap.objs.size + 1) :: vs, kw⟩) (PySem.W.InitBack (s.heap.objs.size + 1) R)
      { s with heap := (s.heap.push PySem.W.emptyDict).push (PySem.W.instObj C s.heap.objs.size) }) :
    codeAny (model prog w) A (.call (.ref C) ⟨vs, kw⟩) R s := by
  obtain ⟨hh, g, d, t, os⟩ := s
  exact PySem.W.make_core (PySem.W.makes_of X hm) (PySem.W.looks_findIn X hi) (fun self => PySem.W.bind_fn X self hf) (.inl rfl) h
end
def putF (f : Str) (v : V) : List (Str × V) → List (Str × V)
  | [] => [(f, v)]
  | (g, x) :: r => if g = f then (g, v) :: r else (g, x) :: putF f v r
theorem lookup_putF (f g : Str) (v : V) : ∀ fs : List (Str × V), (putF f v fs).lookup g = if g = f then some v else fs.lookup g
  | [] => by
    show List.lookup g [(f, v)] = _
    by_cases h : g = f
    · have hb : (g == f) = true := beq_iff_eq.mpr h
      simp only [List.lookup, hb, if_pos h]
    · have hb : (g == f) = false := beq_eq_false_iff_ne.mpr h
      simp only [List.lookup, hb, if_neg h]
  | (k, x) :: r => by
    have ih := lookup_putF f g v r
    rw [show putF f v ((k, x) :: r) = (if k = f then (k, v) :: r else (k, x) :: putF f v r) from rfl]
    by_cases hk : k = f
    · rw [if_pos hk]
      by_cases h : g = k
      · have hb : (g == k) = true := beq_iff_eq.mpr h
        simp only [List.lookup, hb, if_pos (h.trans hk)]
      · have hb : (g == k) = false := beq_eq_false_iff_ne.mpr h
        simp only [List.lookup, hb, if_neg (fun e : g = f => h (e.trans hk.symm))]
    · rw [if_neg hk]
      by_cases h : g = k
      · have hb : (g == k) = true := beq_iff_eq.mpr h
        simp only [List.lookup, hb, if_neg (fun e : g = f => hk (h.symm.trans e))]
      · have hb : (g == k) = false := beq_eq_false_iff_ne.mpr h
        simp only [List.lookup, hb]
        exact ih
theorem keys_putF (f : Str) (v : V) : ∀ fs : List (Str × V), f ∈ (putF f v fs).map (·.1) ∧ ∀ g, g ∈ fs.map (·.1) → g ∈ (putF f v fs).map (·.1)
  | [] => ⟨by simp [putF], fun g h => by simp at h⟩
  | (k, x) :: r => by
    obtain ⟨i1, i2⟩ := keys_putF f v r
    rw [show putF f v ((k, x) :: r) = (if k = f then (k, v) :: r else (k, x) :: putF f v r) from rfl]
    by_cases hk : k = f
    · rw [if_pos hk]
      subst hk
      exact ⟨by simp, fun g h => by simpa using h⟩
    · rw [if_neg hk]
      refine ⟨?_, fun g h => ?_⟩
      · rw [List.map_cons]
        exact List.mem_cons_of_mem _ i1
      · rw [List.map_cons] at h ⊢
        rcases List.mem_cons.mp h with e | e
        · exact List.mem_cons.mpr (.inl e)
        · exact List.mem_cons_of_mem _ (i2 g e)
theorem length_putF (f : Str) (v : V) : ∀ fs : List (Str × V), (putF f v fs).length ≤ fs.length + 1
  | [] => by simp [putF]
  | (k, x) :: r => by
    have ih := length_putF f v r
    rw [show putF f v ((k, x) :: r) = (if k = f then (k, v) :: r else (k, x) :: putF f v r) from rfl]
    by_cases hk : k = f
    · rw [if_pos hk, List.length_cons, List.length_cons]; omega
    · rw [if_neg hk, List.length_cons, List.length_cons]; omega
theorem RelO.some_of {v : V} {o : Option Value} (r : RelO (some v) o) : ∃ u, o = some u ∧ RelV v u := by
  cases o with
  | none => exact (show False from r).elim
  | some u => exact ⟨u, rfl, r⟩
theorem RelO.none_of {o : Option Value} (r : RelO none o) : o = none := by
  cases o with
  | none => rfl
  | some u => exact (show False from r).elim
theorem handed_of {v : V} {u : Value} (r : RelV v u) : PySem.W.handedIn u = true := by
  cases v with
  | non => cases (show u = Value.none from r); rfl
  | bl b => cases (show u = Value.bool b from r); rfl
  | int i => obtain ⟨t, e⟩ := (show ∃ t, u = Value.int i t from r); cases e; rfl
  | str x => obtain ⟨t, e⟩ := (show ∃ t, u = Value.str x t from r); cases e; rfl
  | byt b => obtain ⟨t, e⟩ := (show ∃ t, u = Value.bytes b t from r); cases e; rfl
  | flt b => obtain ⟨t, e⟩ := (show ∃ t, u = Value.float b t from r); cases e; rfl
  | ref a => cases (show u = Value.ref a from r); rfl
  | ty n => cases (show u = Value.type n from r); rfl
section
variable {P : Program} {w : World} {H H' : Hp} {h h' : Heap} {a C dx : Addr} {fs fs' : List (Str × V)}
theorem ins_get (hok : HOk P w H h) (e : H a = some (.ins C dx fs)) : ∃ mA, ObjM h a dx C mA ∧ (∀ f, RelO (fs.lookup f) (mA f)) ∧ PySem.Within mA (fs.map (·.1)) ∧ fs.length ≤ 1000 ∧ H dx = some (.own a) := by
  obtain ⟨d, z, ne, ob, mA, n, r, q⟩ := (show ObjOk P w H h a (.ins C dx fs) from hok a _ e)
  exact ⟨mA, ⟨ob, n, ne⟩, r, q, z, d⟩
end
structure Cls (K : PySem.W.Frag) (C : Addr) : Prop where
  pg : PySem.W.plainGet K C Str.empty = true
  hd : PySem.W.hasDictIn K C = true
  po : PySem.W.plainOver K C = true
  sa : PySem.W.findIn K (.ref C) "__setattr__" = some (some (.builtin "object.__setattr__"))
theorem Cls.get {K : PySem.W.Frag} {C : Addr} (c : Cls K C) (f : Str) : PySem.W.plainGet K C f = true := c.pg
def NoAttr (K : PySem.W.Frag) (C : Addr) (f : Str) : Prop := PySem.W.findIn K (.ref C) f = some none
theorem NoAttr.taker {K : PySem.W.Frag} {C : Addr} {f : Str} (n : NoAttr K C f) : PySem.W.takerIn K C f = some none := by
  unfold PySem.W.takerIn
  rw [show PySem.W.findIn K (.ref C) f = some none from n]
  rfl
structure Con (K : PySem.W.Frag) (C : Addr) (f : Str) (v : V) (u : Value) : Prop where
  at_ : PySem.W.findIn K (.ref C) f = some (some u)
  rel : RelV v u
  get : PySem.W.specialIn K u "__get__" = some none
  cp : PySem.W.copiedNames.contains f = false
structure Meth (K : PySem.W.Frag) (C : Addr) (m : Str) (f : Addr) : Prop where
  at_ : PySem.W.findIn K (.ref C) m = some (some (.ref f))
  fn : PySem.W.isFn K (.ref f) = true
  kp : PySem.W.keepIn K (.ref f) = true
section
variable {X : Cx} {pins : List (Addr × Obj)} {σ : St} {H : Hp} {s : Shared} {a C dx : Addr} {fs : List (Str × V)} {f : Str} {v : V} {A : Around} {E : Value → Shared → Prop}
theorem getattr_ok {b : Bool} {Q : Value → Shared → Prop} (I : Inv X pins σ H s) (e : H a = some (.ins C dx fs)) (c : Cls X.K C) (n : NoAttr X.K C f) (l : fs.lookup f = some v)
    (h : ∀ u s', Inv X pins σ H s' → RelV v u → Q u s') : wpAny (model X.prog X.w) A (getAttr (.ref a) f b) Q E s := by
  obtain ⟨mA, O, r, _, _, _⟩ := ins_get I.hok e
  obtain ⟨u, hu, ru⟩ := RelO.some_of (v := v) (o := mA f) (by rw [← l]; exact r f)
  exact get_map I.kIn O (c.get f) c.hd n hu (handed_of ru) (h u _ (I.tok _) ru)
theorem getmeth_ok {m : Str} {g : Addr} {pl : Sem Bool} {Q : Value × List Value → Shared → Prop} (I : Inv X pins σ H s) (e : H a = some (.ins C dx fs)) (c : Cls X.K C) (k : Meth X.K C m g) (l : fs.lookup m = none)
    (h : Q (.ref g, [.ref a]) s) : wpAny (model X.prog X.w) A (getMethod (.ref a) m pl) Q E s := by
  obtain ⟨mA, O, r, _, _, _⟩ := ins_get I.hok e
  have hn : mA m = none := RelO.none_of (by rw [← l]; exact r m)
  exact get_meth I.kIn O (c.get m) k.at_ k.fn hn h
theorem setattr_ok {y : V} {u : Value} {Q : Unit → Shared → Prop} (I : Inv X pins σ H s) (e : H a = some (.ins C dx fs)) (c : Cls X.K C) (n : NoAttr X.K C f) (hl : fs.length < 1000) (ry : RelV y u)
    (h : ∀ s', Inv X pins σ (upd H a (.ins C dx (putF f y fs))) s' → Q () s') : wpAny (model X.prog X.w) A (setAttr (.ref a) f u) Q E s := by
  obtain ⟨mA, O, r, wi, _, ho⟩ := ins_get I.hok e
  have hz : (fs.map (·.1)).length ≤ sizeLine := by rw [List.length_map, sizeLine_eq]; omega
  refine set_map I.kIn O c.sa c.po n.taker c.hd wi hz fun h' O' sb => h _ ?_
  have hd : ∃ o, h'.get? dx = some o := let ⟨o, _, _, e', _⟩ := O'.ns; ⟨o, e'⟩
  refine I.write (x := a) (e := dx) (by rw [e]; exact True.intro) (.inr ho) (fun b q hb z => (sb.2 b hb).trans z) hd ?_
  refine ⟨by rw [upd_ne O.ne]; exact ho, ?_, O.ne, O'.obj, _, O'.ns, fun g => ?_, fun g hg => ?_⟩
  · have := length_putF f y fs; omega
  · show RelO ((putF f y fs).lookup g) (if g = f then some u else mA g)
    rw [lookup_putF]
    by_cases q : g = f
    · rw [if_pos q, if_pos q]; exact ry
    · rw [if_neg q, if_neg q]; exact r g
  · by_cases q : g = f
    · rw [q]; exact (keys_putF f y fs).1
    · refine (keys_putF f y fs).2 g (wi g fun z => hg ?_)
      show (if g = f then some u else mA g) = none
      rw [if_neg q]; exact z
theorem Inv.made (I : Inv X pins σ H s) : Inv X pins σ (upd (upd H s.heap.objs.size (.own (s.heap.objs.size + 1))) (s.heap.objs.size + 1) (.ins C s.heap.objs.size []))
    { s with heap := (s.heap.push PySem.W.emptyDict).push (PySem.W.instObj C s.heap.objs.size) } := by
  have e1 : (s.heap.push PySem.W.emptyDict).get? s.heap.objs.size = some PySem.W.emptyDict := Heap.get?_push_size s.heap rfl
  have e2 : ((s.heap.push PySem.W.emptyDict).push (PySem.W.instObj C s.heap.objs.size)).get? (s.heap.objs.size + 1) = some (PySem.W.instObj C s.heap.objs.size) := by
    have := Heap.get?_push_size (s.heap.push PySem.W.emptyDict) (o := PySem.W.instObj C s.heap.objs.size) rfl
    rwa [Heap.size_push] at this
  have e3 : (s.heap.push PySem.W.emptyDict).Ns s.heap.objs.size (fun _ => none) := ⟨PySem.W.emptyDict, #[], _, e1, rfl, (fun e he => absurd he (by simp)), fun _ => rfl⟩
  have I1 := I.laid (a := s.heap.objs.size) (o := .own (s.heap.objs.size + 1)) (h' := s.heap.push PySem.W.emptyDict) (t' := s.toks) (fun b u q => Heap.get?_push_of_some _ q) (Nat.le_refl _) ⟨_, e1⟩
  refine I1.laid (a := s.heap.objs.size + 1) (o := .ins C s.heap.objs.size []) (t' := s.toks) (fun b u q => Heap.get?_push_of_some _ q) (Nat.le_of_eq (Heap.size_push _ _)) ?_
  have ne : s.heap.objs.size ≠ s.heap.objs.size + 1 := Nat.ne_of_lt (Nat.lt_succ_self _)
  refine ⟨by rw [upd_ne ne, upd_same], Nat.zero_le _, ne, e2, fun _ => none, (Heap.Ns1.of_empty e3).at fun o q => Heap.get?_push_of_some _ q, fun _ => True.intro, fun y hy => absurd rfl hy⟩
theorem attr_of {prog : Program} {w : World} {env : Env} {e : Expr} {f : Str} {pos : Pos} {s : Shared} {Q : Value → Shared → Prop} (hb : attributeBase e f env (eval e env) = eval e env)
    (h : wpAny (model prog w) A (eval e env) (fun o s₁ => wpAny (model prog w) A (getAttr o f true) Q E s₁) E s) : wpAny (model prog w) A (eval (.Attribute e f pos) env) Q E s :=
  Attribute_any_ h (by rw [arm_eval_Attribute, hb])
end
def tFld (K : PySem.W.Frag) (ta : TE) (f : Str) : TE := fun σ H Q => ta σ H fun x H1 => ∃ a C dx fs v, x = .ref a ∧ H1 a = some (.ins C dx fs) ∧ Cls K C ∧ NoAttr K C f ∧ fs.lookup f = some v ∧ Q v H1
def sFld (K : PySem.W.Frag) (ta tv : TE) (f : Str) : TS := fun D σ H => tv σ H fun y H1 => ta σ H1 fun x H2 => ∃ a C dx fs, x = .ref a ∧ H2 a = some (.ins C dx fs) ∧ Cls K C ∧ NoAttr K C f ∧ fs.length < 1000 ∧
  D.nx σ (upd H2 a (.ins C dx (putF f y fs)))
section
variable {X : Cx} {o e value : Expr} {f : Str} {pos pos' tpos : Pos} {ta tv : TE}
theorem pe_fld (he : PE X e ta) (hb : attributeBase e f X.env (eval e X.env) = eval e X.env) : PE X (.Attribute e f pos) (tFld X.K ta f) := by
  intro pins s σ H Q I h
  refine attr_of hb (thn (he pins s σ H _ I h) fun u s1 ⟨x, H1, I1, rx, a, C, dx, fs, v, ex, ea, c, n, l, q⟩ => ?_)
  subst ex
  obtain rfl : u = Value.ref a := rx
  exact getattr_ok I1 ea c n l fun u' s2 I2 ru => ⟨v, H1, I2, ru, q⟩
theorem ps_fld (ha : PE X o ta) (hv : PE X value tv) (hs : swapsWith value (some (.Attribute o f pos')) pos.line X.env = pure false) : PS X (.Assign [.Attribute o f pos'] value pos) (sFld X.K ta tv f) := by
  intro pins s σ H D I h
  refine plainObj_wpAny_Assign_Attribute (thn (hv pins s σ H _ I h) fun u s1 ⟨y, H1, I1, ry, q⟩ => thn (ha pins s1 σ H1 _ I1 q) fun ov s2 ⟨x, H2, I2, rx, a, C, dx, fs, ex, ea, c, n, l, q2⟩ => ?_) hs
  subst ex
  obtain rfl : ov = Value.ref a := rx
  exact setattr_ok I2 ea c n l ry fun s3 I3 => ⟨σ, _, I3, q2⟩
end
section
variable {X : Cx} {pins : List (Addr × Obj)} {σ : St} {H : Hp} {s : Shared} {A : Around} {E : Value → Shared → Prop} {Q : Value → Shared → Prop} {c : Value} {b : Bool}
inductive TyOf (K : PySem.W.Frag) (H : Hp) : V → Value → Prop where
  | non : TyOf K H .non (.type "NoneType")
  | bl (x : Bool) : TyOf K H (.bl x) (.type "bool")
  | int (i : Int) : TyOf K H (.int i) (.type "int")
  | str (x : Str) : TyOf K H (.str x) (.type "str")
  | flt (x : UInt64) : TyOf K H (.flt x) (.type "float")
  | lst {a : Addr} {xs : List V} (e : H a = some (.lst xs)) : TyOf K H (.ref a) (.type "list")
  | frz {a : Addr} {o : Obj} {xs : List V} (e : H a = some (.frz o (.lst xs))) : TyOf K H (.ref a) (.type "list")
  | tup {a : Addr} {xs : List V} (e : H a = some (.tup xs)) : TyOf K H (.ref a) (.type "tuple")
  | dK {a : Addr} {kvs : List (Key × V)} (e : H a = some (.dK kvs)) : TyOf K H (.ref a) (.type "dict")
  | dT {a : Addr} {kvs : List (List Key × V)} (e : H a = some (.dT kvs)) : TyOf K H (.ref a) (.type "dict")
  | ins {a C dx : Addr} {fs : List (Str × V)} (e : H a = some (.ins C dx fs)) (cl : Cls K C) (ha : PySem.W.findIn K (.ref C) "__class__" = some (some (.builtin "object.__class__")))
      (hn : PySem.W.specialIn K (.builtin "object.__class__") "__get__" = some (some (.builtin "getset_descriptor.__get__"))) (htk : PySem.W.takesIn K (.builtin "object.__class__") = some true)
      (hm : PySem.W.mroIn K C (.type "object") = some true) : TyOf K H (.ref a) (.ref C)
theorem isinst_ok {x : V} {u t : Value} (I : Inv X pins σ H s) (rx : RelV x u) (ty : TyOf X.K H x t) (e : PySem.W.kitOne X.K t c = some b) (h : ∀ tk, Q (.bool b) { s with toks := tk }) :
    wpAny (model X.prog X.w) A (call (.builtin "isinstance") [u, c]) Q E s := by
  cases ty with
  | non => cases (show u = Value.none from rx); exact PySem.W.kia_one PySem.W.kitx_none I.kIn True.intro e (fun z => nomatch z) h
  | bl y => cases (show u = Value.bool y from rx); exact PySem.W.kia_one PySem.W.kitx_bool I.kIn True.intro e (fun z => nomatch z) h
  | int i => obtain ⟨t, q⟩ := (show ∃ t, u = Value.int i t from rx); cases q; exact PySem.W.kia_one PySem.W.kitx_int I.kIn True.intro e (fun z => nomatch z) h
  | str y => obtain ⟨t, q⟩ := (show ∃ t, u = Value.str y t from rx); cases q; exact PySem.W.kia_one PySem.W.kitx_str I.kIn True.intro e (fun z => nomatch z) h
  | flt y => obtain ⟨t, q⟩ := (show ∃ t, u = Value.float y t from rx); cases q; exact PySem.W.kia_one PySem.W.kitx_float I.kIn True.intro e (fun z => nomatch z) h
  | @lst a xs ea =>
    cases (show u = Value.ref a from rx)
    obtain ⟨_, _, n, _, h1⟩ := (show ObjOk X.prog X.w H s.heap a (.lst xs) from I.hok a _ ea)
    exact PySem.W.kia_one PySem.W.kitx_list I.kIn ⟨_, h1, rfl⟩ e (fun z => nomatch z) h
  | @frz a ob xs ea =>
    cases (show u = Value.ref a from rx)
    obtain ⟨_, _, _, n, _, h1⟩ := (show ObjOk X.prog X.w H s.heap a (.frz ob (.lst xs)) from I.hok a _ ea)
    exact PySem.W.kia_one PySem.W.kitx_list I.kIn ⟨_, h1, rfl⟩ e (fun z => nomatch z) h
  | @tup a xs ea =>
    cases (show u = Value.ref a from rx)
    obtain ⟨_, _, _, p⟩ := (show ObjOk X.prog X.w H s.heap a (.tup xs) from I.hok a _ ea)
    obtain ⟨o, h1, h2, _⟩ := p
    exact PySem.W.kia_one PySem.W.kitx_tuple I.kIn ⟨o, h1, h2⟩ e (fun z => nomatch z) h
  | @dK a kvs ea =>
    cases (show u = Value.ref a from rx)
    obtain ⟨_, _, vs, _, p⟩ := (show ObjOk X.prog X.w H s.heap a (.dK kvs) from I.hok a _ ea)
    obtain ⟨o, es, ep, h1, h2, _⟩ := p
    exact PySem.W.kia_one PySem.W.kitx_dict I.kIn ⟨o, h1, h2.1⟩ e (fun z => nomatch z) h
  | @dT a kvs ea =>
    cases (show u = Value.ref a from rx)
    obtain ⟨_, _, xs, _, o, es, ep, h1, h2, _⟩ := (show ObjOk X.prog X.w H s.heap a (.dT kvs) from I.hok a _ ea)
    exact PySem.W.kia_one PySem.W.kitx_dict I.kIn ⟨o, h1, h2.1⟩ e (fun z => nomatch z) h
  | @ins a C dx fs ea cl ha hn htk hm =>
    cases (show u = Value.ref a from rx)
    obtain ⟨mA, O, _⟩ := ins_get I.hok ea
    obtain ⟨od, J, _⟩ := O.look
    exact PySem.W.kia_one (PySem.W.kitx_own (cl.get _) cl.hd ha hn htk hm) I.kIn J e (fun z => nomatch z) h
end
end L2
namespace L2
open PySem PySem.Spec PyProof.Rows
structure Room (k : Nat) (A : Around) : Prop where
  hd : A.handled = none
  dp : A.depth + 3 * k + 5 < recursionLimit
  un : A.units + 16 * k + 200 < cLine
  gd : A.guards = some []
theorem Room.mono {j k : Nat} {A : Around} (r : Room k A) (h : j ≤ k) : Room j A := ⟨r.hd, by have := r.dp; omega, by have := r.un; omega, r.gd⟩
theorem Room.deeper {k : Nat} {A : Around} (r : Room (k + 1) A) (env : Env) : Room k (A.deeper env) :=
  ⟨r.hd, by have := r.dp; show A.depth + 1 + 3 * k + 5 < _; omega, by have := r.un; show A.units + 3 + 16 * k + 200 < _; omega, r.gd⟩
theorem Room.in1 {k : Nat} {A : Around} (r : Room (k + 1) A) : Room k A.in1 :=
  ⟨r.hd, by have := r.dp; show A.depth + 3 * k + 5 < _; omega, by have := r.un; show A.units + 1 + 16 * k + 200 < _; omega, r.gd⟩
theorem make_depth {A : Around} {C : Addr} {us : List Value} {kw : List (Str × Value)} : (A.under (.builtin "type.__call__" ⟨.ref C :: us, kw⟩)).depth = A.depth + 1 := by
  first | rfl | simp [Around.under, Code.weight, Code.isCreation, Code.isGuard, Code.isCaller, Code.frames, Code.isFrame, guardIds]
theorem make_units {A : Around} {C : Addr} {us : List Value} {kw : List (Str × Value)} : (A.under (.builtin "type.__call__" ⟨.ref C :: us, kw⟩)).units = A.units + 1 := by
  first | rfl | simp [Around.under, Code.cUnits, Code.frames, Code.isFrame]
theorem Room.make {k : Nat} {A : Around} (r : Room (k + 1) A) (C : Addr) (us : List Value) (kw : List (Str × Value)) : Room k (A.under (.builtin "type.__call__" ⟨.ref C :: us, kw⟩)) :=
  ⟨r.hd, by have := r.dp; rw [make_depth]; omega, by have := r.un; rw [make_units]; omega, by have := r.gd; first | exact this | (simpa [Around.under, Code.isGuard, guardIds] using this)⟩
theorem Room.depth {k : Nat} {A : Around} (r : Room k A) : A.depth < recursionLimit := by have := r.dp; omega
theorem Room.units {k : Nat} {A : Around} (r : Room k A) : A.units + 64 < cLine := by have := r.un; omega
theorem Room.units0 {k : Nat} {A : Around} (r : Room k A) : A.units < cLine := by have := r.un; omega
def tNil : TA := fun _ H Q => Q [] H
def tCons (ta : TE) (tr : TA) : TA := fun σ H Q => ta σ H fun x H1 => tr σ H1 fun xs H2 => Q (x :: xs) H2
section
variable {X : Cx} {e : Expr} {es : List Expr} {te : TE} {t : TA} {pos : Pos}
theorem pa_nil : PA X [] tNil := fun _ _ _ _ H Q I h => Calls.spliced_nil ⟨[], H, I, .nil, h⟩
theorem pa_cons (ha : PE X e te) (hr : PA X es t) (hs : starEach (e :: es) X.env = (false, eval e X.env) :: starEach es X.env := by rfl) : PA X (e :: es) (tCons te t) := by
  intro pos pins s σ H Q I h
  rw [hs]
  show wpAny _ _ (spliced ((false, eval e X.env) :: backTo pos (starEach es X.env))) _ _ s
  refine Calls.spliced_cons (thn (ha pins s σ H _ I h) fun u s1 ⟨x, H1, I1, r1, q1⟩ => ?_)
  exact thn (hr pos pins s1 σ H1 _ I1 q1) fun us s2 ⟨xs, H2, I2, r2, q2⟩ => ⟨x :: xs, H2, I2, .cons r1 r2, q2⟩
def tTup (t : TA) : TE := fun σ H Q => t σ H fun xs H1 => xs.length ≤ sizeLine ∧ ∀ p, H1 p = none → Q (.ref p) (upd H1 p (.tup xs))
def tLst (t : TA) : TE := fun σ H Q => t σ H fun xs H1 => xs.length ≤ sizeLine ∧ ∀ p, H1 p = none → Q (.ref p) (upd H1 p (.lst xs))
theorem pe_tup {x1} (h : PA X es t) : PE X (.Tuple es x1 pos) (tTup t) := by
  intro pins s σ H Q I hq
  refine wpAny_Tuple_spliced (thn (h pos pins s σ H _ I hq) fun us s1 ⟨xs, H1, I1, r, z, q⟩ => ⟨by rw [← r.length]; exact z, ?_⟩)
  have hf : H1 s1.heap.objs.size = none := I1.hok.fresh (Nat.le_refl _)
  refine ⟨.ref s1.heap.objs.size, upd H1 s1.heap.objs.size (.tup xs), I1.laid (t' := s1.toks) (fun b u e => Heap.get?_push_of_some _ e) (Nat.le_refl _) ?_, rfl, q _ hf⟩
  exact ⟨z, us, r, ⟨_, Heap.get?_push_size _ rfl, rfl, _, rfl⟩⟩
theorem pe_lst (h : PA X es t) : PE X (.List es pos) (tLst t) := by
  intro pins s σ H Q I hq
  refine wpAny_List_spliced (thn (h pos pins s σ H _ I hq) fun us s1 ⟨xs, H1, I1, r, z, q⟩ => ⟨by rw [← r.length]; exact z, ?_⟩)
  have hf : H1 s1.heap.objs.size = none := I1.hok.fresh (Nat.le_refl _)
  refine ⟨.ref s1.heap.objs.size, upd H1 s1.heap.objs.size (.lst xs), I1.laid (t' := s1.toks) (fun b u e => Heap.get?_push_of_some _ e) (Nat.le_refl _) ?_, rfl, q _ hf⟩
  exact ⟨z, us, 0, r, Heap.get?_push_size _ rfl⟩
end
abbrev Sp := List V → Hp → VK → XK → Prop
abbrev CXT := List Env → Hp → Shared → XK → Value → Shared → Prop
structure Env0 (P : Program) (w : World) (K : PySem.W.Frag) (mg : Str → Option Value) (base : Heap) (A : Around) (outer : List Env) (s : Shared) (H : Hp) : Prop where
  frames : A.frames = some outer
  mod : Mod K mg base
  bs : ∀ b o, base.get? b = some o → s.heap.get? b = some o ∧ H b = none
  bsz : base.objs.size ≤ s.heap.objs.size
  funs : s.heap.FunFrames base outer
  frf : ∀ b ∈ frs outer, H b = none
  hok : HOk P w H s.heap
  bare : AllBare s.gens
def CE (outer : List Env) (P : Program) (w : World) (H : Hp) (s : Shared) (Q : VK) (u : Value) (s' : Shared) : Prop :=
  ∃ v H', s'.os = s.os ∧ AllBare s'.gens ∧ Un (frs outer) [] H H' s.heap s'.heap ∧ HOk P w H' s'.heap ∧ RelV v u ∧ Q v H'
def CR (CX : CXT) (outer : List Env) (P : Program) (w : World) (H : Hp) (s : Shared) (Q : VK) (E : XK) (r : Result) (s' : Shared) : Prop :=
  match r with
  | .ok (.ret u) => CE outer P w H s Q u s'
  | .ok _ => False
  | .error e => CX outer H s E e s'
structure FnOk (P : Program) (w : World) (K : PySem.W.Frag) (mg : Str → Option Value) (base : Heap) (CX : CXT) (k : Nat) (f : Addr) (fd : FuncData) (ps : List Str) (sp : Sp) : Prop where
  len : ∀ vs H Q E, sp vs H Q E → vs.length = ps.length
  run : ∀ (A : Around) (outer : List Env) (s : Shared) (H : Hp) (args : Args) (us : List Value) (vs : List V) (Q : VK) (E : XK), Room k A → Env0 P w K mg base A outer s H → BindsTo s fd args (ps.zip us) → Vals vs us → sp vs H Q E →
    codeAny (model P w) A (.call (.ref f) args) (CR CX outer P w H s Q E) s
theorem FnOk.mono {P : Program} {w : World} {K : PySem.W.Frag} {mg : Str → Option Value} {base : Heap} {CX : CXT} {j k : Nat} {f : Addr} {fd : FuncData} {ps : List Str} {sp : Sp} (F : FnOk P w K mg base CX j f fd ps sp) (h : j ≤ k) :
    FnOk P w K mg base CX k f fd ps sp := ⟨F.len, fun A outer s H args us vs Q E hr => F.run A outer s H args us vs Q E (hr.mono h)⟩
theorem FnOk.imp {P : Program} {w : World} {K : PySem.W.Frag} {mg : Str → Option Value} {base : Heap} {CX : CXT} {k : Nat} {f : Addr} {fd : FuncData} {ps : List Str} {sp sp' : Sp} (F : FnOk P w K mg base CX k f fd ps sp)
    (h : ∀ vs H Q E, sp' vs H Q E → sp vs H Q E) : FnOk P w K mg base CX k f fd ps sp' :=
  ⟨fun vs H Q E q => F.len vs H Q E (h _ _ _ _ q), fun A outer s H args us vs Q E hr he hb hv hs => F.run A outer s H args us vs Q E hr he hb hv (h _ _ _ _ hs)⟩
theorem Env0.make {P : Program} {w : World} {K : PySem.W.Frag} {mg : Str → Option Value} {base : Heap} {A : Around} {outer : List Env} {s : Shared} {H : Hp} (e : Env0 P w K mg base A outer s H) (C : Addr) (us : List Value) (kw : List (Str × Value)) :
    Env0 P w K mg base (A.under (.builtin "type.__call__" ⟨.ref C :: us, kw⟩)) outer s H := ⟨by first | exact e.frames | (simpa [Around.under, Code.envs, Code.isFrame, pushEnvs] using e.frames), e.mod, e.bs, e.bsz, e.funs, e.frf, e.hok, e.bare⟩
theorem Env0.in1 {P : Program} {w : World} {K : PySem.W.Frag} {mg : Str → Option Value} {base : Heap} {A : Around} {outer : List Env} {s : Shared} {H : Hp} (e : Env0 P w K mg base A outer s H) :
    Env0 P w K mg base A.in1 outer s H := ⟨e.frames, e.mod, e.bs, e.bsz, e.funs, e.frf, e.hok, e.bare⟩
section
variable {X : Cx} {pins : List (Addr × Obj)} {σ : St} {H : Hp} {s s' : Shared}
theorem Inv.env0 (I : Inv X pins σ H s) : Env0 X.prog X.w X.K X.mg X.base X.A X.stack s H :=
  ⟨I.ok.frames, I.ok.mod, I.bs, Nat.le_trans I.ok.bsz I.sz, I.stack, I.stkFree, I.hok, I.bare⟩
theorem Inv.after {Q : VK} {u : Value} (I : Inv X pins σ H s) (h : CE X.stack X.prog X.w H s Q u s') : EP X pins σ Q u s' := by
  obtain ⟨v, H', os, bare, un, hok, r, q⟩ := h
  obtain ⟨hh, g, d, t, os'⟩ := s'
  obtain rfl : os' = s.os := os
  exact ⟨v, H', I.call (h' := hh) (g' := g) (d' := d) (t' := t) (ch := []) un hok bare (fun b z => absurd z (by simp)), r, q⟩
end
def tCall (sp : Sp) (dvs : List V) (E : XK) (t : TA) : TE := fun σ H Q => t σ H fun vs H1 => sp (vs ++ dvs) H1 Q E
def tMeth (C : Addr) (m : Str) (sp : Sp) (dvs : List V) (E : XK) (ta : TE) (t : TA) : TE := fun σ H Q => ta σ H fun x H1 => ∃ a dx fs, x = .ref a ∧ H1 a = some (.ins C dx fs) ∧ fs.lookup m = none ∧
  t σ H1 fun vs H2 => sp (x :: (vs ++ dvs)) H2 Q E
def tMake (C : Addr) (sp : Sp) (dvs : List V) (E : XK) (t : TA) : TE := fun σ H Q => t σ H fun vs H1 => ∀ x dx, H1 x = none → H1 dx = none → dx ≠ x →
  sp (.ref x :: (vs ++ dvs)) (upd (upd H1 dx (.own x)) x (.ins C dx [])) (fun v H2 => v = .non ∧ Q (.ref x) H2) E
def Binds (K : PySem.W.Frag) (fd : FuncData) (ps : List Str) (ds : List Value) : Prop :=
  ∀ (s : Shared) (us : List Value), K.In s.heap → (us ++ ds).length = ps.length → BindsTo s fd ⟨us, []⟩ (ps.zip (us ++ ds))
theorem Binds.all {K : PySem.W.Frag} {fd : FuncData} {ps : List Str} (h : ∀ us : List Value, us.length = ps.length → bindArgs fd ⟨us, []⟩ = pure (ps.zip us)) : Binds K fd ps [] := fun s us _ hl => by
  rw [List.append_nil] at hl ⊢
  exact .of_eq (h us hl)
def Passes (CX : CXT) (X : Cx) (E : XK) : Prop := ∀ (pins : List (Addr × Obj)) (σ : St) (H : Hp) (s : Shared) (e : Value) (s' : Shared), Inv X pins σ H s → CX X.stack H s E e s' → X.xe e s'
section
variable {X : Cx} {CX : CXT} {k : Nat} {f C : Addr} {fd : FuncData} {ps : List Str} {sp : Sp} {dvs : List V} {ds : List Value} {E : XK} {x m : Str} {p pos apos : Pos} {e o : Expr} {es : List Expr} {ta : TE} {t : TA}
theorem run_fn {pins : List (Addr × Obj)} {σ : St} {H : Hp} {s : Shared} {Q : VK} {us : List Value} {vs : List V} (F : FnOk X.prog X.w X.K X.mg X.base CX k f fd ps sp) (hr : Room k X.A) (hb : Binds X.K fd ps ds) (hd : Vals dvs ds) (hx : Passes CX X E)
    (I : Inv X pins σ H s) (r : Vals vs us) (h : sp (vs ++ dvs) H Q E) : wpAny (model X.prog X.w) X.A (call (.ref f) us) (EP X pins σ Q) X.xe s := by
  have r2 : Vals (vs ++ dvs) (us ++ ds) := r.append hd
  have hl : (us ++ ds).length = ps.length := by rw [← r2.length]; exact F.len _ _ _ _ h
  refine wpAny_call (codeAny_mono (F.run X.A X.stack s H ⟨us, []⟩ (us ++ ds) (vs ++ dvs) Q E hr I.env0 (hb s us I.kIn hl) r2 h) fun r s' hq => ?_)
  cases r with
  | error e => exact hx pins σ H s e s' I hq
  | ok fl =>
    cases fl with
    | ret u => exact I.after hq
    | next => exact False.elim hq
    | brk => exact False.elim hq
    | cont => exact False.elim hq
theorem pe_call (F : FnOk X.prog X.w X.K X.mg X.base CX k f fd ps sp) (hr : Room k X.A) (hg : Gl X x) (hm : X.mg x = some (.ref f)) (hk : PySem.W.keepIn X.K (.ref f) = true) (hb : Binds X.K fd ps ds) (hd : Vals dvs ds) (hx : Passes CX X E)
    (ha : PA X (e :: es) t) (hdb : (x == ("__debug__" : Str)) = false := by decide) (he : starEach (e :: es) X.env = (false, eval e X.env) :: starEach es X.env := by rfl) (hpl : (backTo pos (starEach es X.env)).any (·.1) = false := by rfl) :
    PE X (.Call (.Name x p) (e :: es) [] pos) (tCall sp dvs E t) := by
  intro pins s σ H Q I h
  refine wpAny_Call_Name_kw (ld_glob I hg hm ?_ hdb)
  refine PySem.W.callWith_K (h₀ := X.base) I.ok.mod.kin hk (thn (ha pos pins s σ H _ I h) fun us s1 ⟨vs, H1, I1, r, q⟩ => ⟨I1.kIn, ?_⟩) he hpl
  exact run_fn F hr hb hd hx I1 r q
theorem pe_meth {pl : Sem Bool} (he : PE X o ta) (c : Cls X.K C) (hm : Meth X.K C m f) (F : FnOk X.prog X.w X.K X.mg X.base CX k f fd ps sp) (hr : Room k X.A) (hb : Binds X.K fd ps ds) (hd : Vals dvs ds) (hx : Passes CX X E) (ha : PA X (e :: es) t)
    (hst : starEach (e :: es) X.env = (false, eval e X.env) :: starEach es X.env := by rfl) (hpl : (backTo pos (starEach es X.env)).any (·.1) = false := by rfl)
    (ht : eval (.Call (.Attribute o m apos) (e :: es) [] pos) X.env = (do
      let ov ← eval o X.env
      standAt apos.atName
      let (f, first) ← holding [ov] (getMethod ov m pl)
      callWith pos f first (backTo pos (starEach (e :: es) X.env)) (backToKw pos (keywordEach [] X.env))) := by rfl) :
    PE X (.Call (.Attribute o m apos) (e :: es) [] pos) (tMeth C m sp dvs E ta t) := by
  intro pins s σ H Q I h
  refine PySem.W.methodCall_KW (pl := pl) (thn (he pins s σ H _ I h) fun u s1 ⟨x, H1, I1, rx, a, dx, fs, ex, ea, l, q⟩ => ?_) ht
  subst ex
  obtain rfl : u = Value.ref a := rx
  refine getmeth_ok I1 ea c hm l ?_
  refine PySem.W.callWith_K (first := [.ref a]) (h₀ := X.base) I.ok.mod.kin hm.kp (thn (ha pos pins s1 σ H1 _ I1 q) fun us s2 ⟨vs, H2, I2, r, q2⟩ => ⟨I2.kIn, ?_⟩) hst hpl
  exact run_fn (us := .ref a :: us) (vs := .ref a :: vs) F hr hb hd hx I2 (.cons rfl r) q2
theorem pe_meth0 {pl : Sem Bool} (he : PE X o ta) (c : Cls X.K C) (hm : Meth X.K C m f) (F : FnOk X.prog X.w X.K X.mg X.base CX k f fd ps sp) (hr : Room k X.A) (hb : Binds X.K fd ps ds) (hd : Vals dvs ds) (hx : Passes CX X E)
    (ht : eval (.Call (.Attribute o m apos) [] [] pos) X.env = (do
      let ov ← eval o X.env
      standAt apos.atName
      let (f, first) ← holding [ov] (getMethod ov m pl)
      callWith pos f first (backTo pos (starEach [] X.env)) (backToKw pos (keywordEach [] X.env))) := by rfl) :
    PE X (.Call (.Attribute o m apos) [] [] pos) (tMeth C m sp dvs E ta tNil) := by
  intro pins s σ H Q I h
  refine PySem.W.methodCall_KW (pl := pl) (thn (he pins s σ H _ I h) fun u s1 ⟨x, H1, I1, rx, a, dx, fs, ex, ea, l, q⟩ => ?_) ht
  subst ex
  obtain rfl : u = Value.ref a := rx
  refine getmeth_ok I1 ea c hm l ?_
  exact PySem.W.callWith_K0 (first := [.ref a]) I1.kIn hm.kp (run_fn (us := [.ref a]) (vs := [.ref a]) F hr hb hd hx I1 (.cons rfl .nil) q)
structure Mk (K : PySem.W.Frag) (C f : Addr) : Prop where
  makes : PySem.W.makesIn K C = true
  init : PySem.W.findIn K (.ref C) "__init__" = some (some (.ref f))
  fn : PySem.W.isFn K (.ref f) = true
  kp : PySem.W.keepIn K (.ref C) = true
theorem run_make {pins : List (Addr × Obj)} {σ : St} {H : Hp} {s : Shared} {Q : VK} {us : List Value} {vs : List V} (M : Mk X.K C f) (F : FnOk X.prog X.w X.K X.mg X.base CX k f fd ps sp) (hr : Room (k + 1) X.A) (hb : Binds X.K fd ps ds) (hd : Vals dvs ds)
    (hx : Passes CX X E) (I : Inv X pins σ H s) (r : Vals vs us)
    (h : ∀ x dx, H x = none → H dx = none → dx ≠ x → sp (.ref x :: (vs ++ dvs)) (upd (upd H dx (.own x)) x (.ins C dx [])) (fun v H2 => v = .non ∧ Q (.ref x) H2) E) :
    wpAny (model X.prog X.w) X.A (call (.ref C) us) (EP X pins σ Q) X.xe s := by
  have hq := h (s.heap.objs.size + 1) s.heap.objs.size (I.hok.fresh (Nat.le_succ _)) (I.hok.fresh (Nat.le_refl _)) (Nat.ne_of_lt (Nat.lt_succ_self _))
  have I2 := Inv.made (C := C) I
  have r2 : Vals (V.ref (s.heap.objs.size + 1) :: (vs ++ dvs)) (Value.ref (s.heap.objs.size + 1) :: (us ++ ds)) := .cons rfl (r.append hd)
  have hl : (Value.ref (s.heap.objs.size + 1) :: us ++ ds).length = ps.length := by
    have e := r2.length
    rw [F.len _ _ _ _ hq] at e
    exact e.symm
  refine wpAny_call (make_map (f := f) I.kIn M.makes M.init (beq_iff_eq.mp M.fn) (codeAny_mono (F.run _ X.stack _ _ ⟨Value.ref (s.heap.objs.size + 1) :: us, []⟩ (Value.ref (s.heap.objs.size + 1) :: (us ++ ds)) _ _ E (hr.make C us [])
    (I2.env0.make C us []) (hb _ (Value.ref (s.heap.objs.size + 1) :: us) I2.kIn hl) r2 hq) fun r s' hq' => ?_))
  cases r with
  | error e => exact hx pins σ _ _ e s' I2 hq'
  | ok fl =>
    cases fl with
    | ret u =>
      obtain ⟨v, H', I3, rv, ev, q3⟩ := I2.after hq'
      subst ev
      exact ⟨rv, ⟨V.ref (s.heap.objs.size + 1), H', I3, rfl, q3⟩⟩
    | next => exact False.elim hq'
    | brk => exact False.elim hq'
    | cont => exact False.elim hq'
theorem pe_make (M : Mk X.K C f) (F : FnOk X.prog X.w X.K X.mg X.base CX k f fd ps sp) (hr : Room (k + 1) X.A) (hg : Gl X x) (hm : X.mg x = some (.ref C)) (hb : Binds X.K fd ps ds) (hd : Vals dvs ds) (hx : Passes CX X E)
    (ha : PA X (e :: es) t) (hdb : (x == ("__debug__" : Str)) = false := by decide) (he : starEach (e :: es) X.env = (false, eval e X.env) :: starEach es X.env := by rfl) (hpl : (backTo pos (starEach es X.env)).any (·.1) = false := by rfl) :
    PE X (.Call (.Name x p) (e :: es) [] pos) (tMake C sp dvs E t) := by
  intro pins s σ H Q I h
  refine wpAny_Call_Name_kw (ld_glob I hg hm ?_ hdb)
  refine PySem.W.callWith_K (h₀ := X.base) I.ok.mod.kin M.kp (thn (ha pos pins s σ H _ I h) fun us s1 ⟨vs, H1, I1, r, q⟩ => ⟨I1.kIn, ?_⟩) he hpl
  exact run_make M F hr hb hd hx I1 r q
end
def PK (X : Cx) (kws : List Keyword) (t : TA) : Prop :=
  ∀ (pos : Pos) (pins : List (Addr × Obj)) (s : Shared) (σ : St) (H : Hp) (Q : List V → Hp → Prop), Inv X pins σ H s → t σ H Q → wpAny (model X.prog X.w) X.A (evalAll ((backToKw pos (keywordEach kws X.env)).map (·.2))) (AP X pins σ Q) X.xe s
section
variable {X : Cx} {CX : CXT} {k : Nat} {f C : Addr} {fd : FuncData} {ps ks : List Str} {sp : Sp} {E : XK} {x m : Str} {p pos apos kpos : Pos} {e o : Expr} {es : List Expr} {kws : List Keyword} {te ta : TE} {t tk : TA} {nm : Option Str}
theorem pk_nil : PK X [] tNil := fun _ _ _ _ H Q I h => wpAny_evalAll_nil ⟨[], H, I, .nil, h⟩
theorem pk_cons (ha : PE X e te) (hr : PK X kws t) : PK X (⟨nm, e, kpos⟩ :: kws) (tCons te t) := by
  intro pos pins s σ H Q I h
  show wpAny _ _ (evalAll ((do let v ← eval e X.env; standAt pos; pure v) :: (backToKw pos (keywordEach kws X.env)).map (·.2))) _ _ s
  refine wpAny_evalAll_cons (wpAny_bind (thn (ha pins s σ H _ I h) fun u s1 ⟨x, H1, I1, r1, q1⟩ => wpAny_bind (wpAny_standAt (wpAny_pure ?_))))
  exact thn (hr pos pins s1 σ H1 _ I1 q1) fun us s2 ⟨xs, H2, I2, r2, q2⟩ => ⟨x :: xs, H2, I2, .cons r1 r2, q2⟩
structure KBinds (K : PySem.W.Frag) (fd : FuncData) (ps ks : List Str) (g : List Value → List Value → List Value) (gV : List V → List V → List V) : Prop where
  to : ∀ (s : Shared) (us ws : List Value), K.In s.heap → (g us ws).length = ps.length → BindsTo s fd ⟨us, ks.zip ws⟩ (ps.zip (g us ws))
  rel : ∀ {vs : List V} {us : List Value} {zs : List V} {ws : List Value}, Vals vs us → Vals zs ws → Vals (gV vs zs) (g us ws)
variable {g : List Value → List Value → List Value} {gV : List V → List V → List V}
end
structure FnScope (N P : List Str) (sc : Scope) : Prop where
  kind : sc.kind = .function
  co : sc.isCoroutine = false
  gen : sc.isGenerator = false
  nd : N.Nodup
  pre : N.take P.length = P
  par : ∀ x ∈ P, sc.names.lookup x = some .local ∨ sc.names.lookup x = some .cell
  nofree : ∀ y ∈ sc.names, y.2 ≠ .free
theorem bindL_out {kindOf : Str → Option NameKind} {x : Str} : ∀ {binds : List (Str × Value)} {m : Str → Option Value}, (∀ v, (x, v) ∉ binds) → bindL kindOf binds m x = m x
  | [], _, _ => rfl
  | (n, v) :: r, m, h => by
    unfold bindL
    rw [bindL_out fun w hw => h w (List.mem_cons_of_mem _ hw)]
    split
    · have : x ≠ n := by rintro rfl; exact h v List.mem_cons_self
      simp [this]
    · rfl
theorem bindC_out {kindOf : Str → Option NameKind} {x : Str} : ∀ {binds : List (Str × Value)} {m : Str → Option Value}, (∀ v, (x, v) ∉ binds) → bindC kindOf binds m x = m x
  | [], _, _ => rfl
  | (n, v) :: r, m, h => by
    unfold bindC
    rw [bindC_out fun w hw => h w (List.mem_cons_of_mem _ hw)]
    split
    · rfl
    · have : x ≠ n := by rintro rfl; exact h v List.mem_cons_self
      simp [this]
theorem bindL_get {kindOf : Str → Option NameKind} {x : Str} {v : Value} : ∀ {P : List Str} {vs : List Value} {i : Nat} {m : Str → Option Value}, P.Nodup → P[i]? = some x → vs[i]? = some v → kindOf x = some .local →
    bindL kindOf (P.zip vs) m x = some v
  | [], _, _, _, _, h, _, _ => by simp at h
  | _ :: _, [], _, _, _, _, h, _ => by simp at h
  | p :: P, w :: vs, 0, m, nd, h1, h2, hk => by
    simp at h1 h2; subst h1; subst h2
    show bindL kindOf ((p, w) :: P.zip vs) m p = _
    unfold bindL
    rw [bindL_out fun v hv => (List.nodup_cons.mp nd).1 (List.of_mem_zip hv).1, if_pos hk]
    simp
  | p :: P, w :: vs, i + 1, m, nd, h1, h2, hk => by
    show bindL kindOf ((p, w) :: P.zip vs) m x = _
    unfold bindL
    exact bindL_get (i := i) (List.nodup_cons.mp nd).2 (by simpa using h1) (by simpa using h2) hk
theorem bindC_get {kindOf : Str → Option NameKind} {x : Str} {v : Value} : ∀ {P : List Str} {vs : List Value} {i : Nat} {m : Str → Option Value}, P.Nodup → P[i]? = some x → vs[i]? = some v → kindOf x ≠ some .local →
    bindC kindOf (P.zip vs) m x = some v
  | [], _, _, _, _, h, _, _ => by simp at h
  | _ :: _, [], _, _, _, _, h, _ => by simp at h
  | p :: P, w :: vs, 0, m, nd, h1, h2, hk => by
    simp at h1 h2; subst h1; subst h2
    show bindC kindOf ((p, w) :: P.zip vs) m p = _
    unfold bindC
    rw [bindC_out fun v hv => (List.nodup_cons.mp nd).1 (List.of_mem_zip hv).1, if_neg hk]
    simp
  | p :: P, w :: vs, i + 1, m, nd, h1, h2, hk => by
    show bindC kindOf ((p, w) :: P.zip vs) m x = _
    unfold bindC
    exact bindC_get (i := i) (List.nodup_cons.mp nd).2 (by simpa using h1) (by simpa using h2) hk
def start (N : List Str) (vs : List V) : St := vs.map some ++ List.replicate (N.length - vs.length) none
def cxOf (CX : CXT) (P : Program) (w : World) (K : PySem.W.Frag) (mg : Str → Option Value) (base : Heap) (N : List Str) (qual : Str) (scope : Scope) (f : Addr) (cd : Value) (A : Around) (outer : List Env) (s : Shared) (H : Hp) (E : XK) : Cx where
  prog := P
  w := w
  K := K
  mg := mg
  base := base
  A := A.deeper (envOfC qual scope s.heap.objs.size f cd)
  N := N
  s₀ := s
  H₀ := H
  env := envOfC qual scope s.heap.objs.size f cd
  outer := outer
  stack := envOfC qual scope s.heap.objs.size f cd :: outer
  ex := []
  calm := true
  fn := fun _ => true
  pn := []
  xe := fun e s' => wpAny (model P w) (A.deeper (envOfC qual scope s.heap.objs.size f cd)) (leaving (envOfC qual scope s.heap.objs.size f cd) e) (fun _ s'' => CX outer H s E e s'') (fun e' s'' => CX outer H s E e' s'') s'
theorem cell_has {sc : Scope} {n : Nat} {x : Str} (h : sc.names.lookup x = some .cell) : ∃ c, (cellsFrom n sc.names []).lookup x = some c := by
  have q := PySem.W.cellsFrom_some sc.names n [] (.inl h)
  exact Option.isSome_iff_exists.mp q
theorem inv_start {CX : CXT} {P : Program} {w : World} {K : PySem.W.Frag} {mg : Str → Option Value} {base : Heap} {N ps : List Str} {qual : Str} {scope : Scope} {f : Addr} {cd : Value} {A : Around} {outer : List Env} {s s1 : Shared} {H : Hp} {E : XK} {us : List Value} {vs : List V}
    (S : FnScope N ps scope) (hd : A.handled = none) (e0 : Env0 P w K mg base A outer s H) (hl : vs.length = ps.length) (r : Vals vs us)
    (x : InCallC s s.heap.objs.size (bindL (envOfC qual scope s.heap.objs.size f cd).kindOf (ps.zip us) fun _ => none) (cellsFrom (s.heap.objs.size + 1) scope.names []) (bindC (envOfC qual scope s.heap.objs.size f cd).kindOf (ps.zip us) fun _ => none) s1) :
    Inv (cxOf CX P w K mg base N qual scope f cd A outer s H E) [] (start N vs) H s1 := by
  have hpl : ps.length ≤ N.length := by have := congrArg List.length S.pre; rw [List.length_take] at this; omega
  obtain ⟨h1, tk, rfl, hk⟩ := x.done
  have noA : ∀ b : Addr, b ∉ (cxOf CX P w K mg base N qual scope f cd A outer s H E).ex := fun b z => absurd (show b ∈ ([] : List Addr) from z) (by simp)
  refine ⟨⟨e0.mod, S.kind, rfl, rfl, Nat.le_refl _, fun y z c h1 h2 => ?_, fun y hy => ?_, fun y c _ h => ?_, fun _ => hd, Around.frames_deeper e0.frames, .inr ⟨rfl, rfl⟩, fun b z => absurd z (noA b), e0.bs, e0.bsz, fun b _ _ => noA b, fun b z => absurd z (noA b), e0.funs, e0.frf⟩,
    rfl, e0.bare, Un.kept hk, ⟨_, x.toInCall.ns, fun i y v h1 h2 h3 => ?_⟩, fun y c h => ⟨_, x.cell y c h⟩, e0.hok.fresh (Nat.le_refl _), fun y c h => ?_, fun p hp => absurd (show p ∈ ([] : List (Addr × Obj)) from hp) (by simp), e0.hok.kept hk, ?_⟩
  · exact name_of_addr x.apart (PySem.mem_of_lookup h1) (PySem.mem_of_lookup h2)
  · have hy : scope.names.lookup y = some .cell ∨ scope.names.lookup y = some .free := hy
    rcases hy with hy | hy
    · exact cell_has hy
    · exact absurd rfl (S.nofree _ (PySem.mem_of_lookup hy))
  · exact Nat.le_of_lt (x.above y c (PySem.mem_of_lookup h))
  · have hi : i < vs.length := by
      unfold start at h2
      by_cases hi : i < vs.length
      · exact hi
      · rw [List.getElem?_append_right (by simpa using hi)] at h2
        rw [List.getElem?_replicate] at h2
        split at h2 <;> cases h2
    have ha : vs[i]? = some v := by
      unfold start at h2
      rw [List.getElem?_append_left (by simpa using hi), List.getElem?_map] at h2
      cases e : vs[i]? with
      | none => rw [e] at h2; cases h2
      | some a => rw [e] at h2; cases h2; rfl
    obtain ⟨u, hu, rv⟩ := r.get ha
    have hp : ps[i]? = some y := by
      rw [← S.pre, List.getElem?_take_of_lt (by omega)]; exact h1
    have ndP : ps.Nodup := by rw [← S.pre]; exact S.nd.sublist (List.take_sublist _ _)
    refine ⟨u, rv, ?_⟩
    rcases S.par y (List.mem_of_getElem? hp) with k | k
    · exact .inl ⟨k, bindL_get ndP hp hu k⟩
    · obtain ⟨c, e⟩ := cell_has (n := s.heap.objs.size + 1) k
      refine .inr ⟨.inl k, c, e, ?_⟩
      have q := x.cell y c e
      rw [bindC_get ndP hp hu (by show scope.names.lookup y ≠ _; rw [k]; decide)] at q
      exact q
  · exact e0.hok.fresh (Nat.le_of_lt (x.above y c (PySem.mem_of_lookup h)))
  · unfold start
    show _ = N.length
    rw [List.length_append, List.length_map, List.length_replicate]
    omega
theorem fn_of {CX : CXT} {P : Program} {w : World} {K : PySem.W.Frag} {mg : Str → Option Value} {base : Heap} {k : Nat} {f : Addr} {name qual : Str} {params : Arguments} {body : List Stmt} {scope : Scope} {dV kV doc pm cdv ct oc : Value} {an od : Option Addr}
    {osl : Array (Option Value)} {N ps : List Str} {sp : Sp} (lk : K.lookup f = some ⟨oc, od, .func (PySem.W.fnOf name qual params body scope dV kV doc pm an cdv ct), osl⟩) (hcd : PySem.W.codeIn K cdv qual = true) (S : FnScope N ps scope)
    (len : ∀ vs H Q E, sp vs H Q E → vs.length = ps.length)
    (hbody : ∀ (A : Around) (outer : List Env) (s : Shared) (H : Hp) (vs : List V) (Q : VK) (E : XK), Room k (A.deeper (envOfC qual scope s.heap.objs.size f cdv)) → sp vs H Q E →
      ∃ t, PSs (cxOf CX P w K mg base N qual scope f cdv A outer s H E) body t ∧ t { nx := fun _ H' => Q .non H', rt := Q } (start N vs) H) :
    FnOk P w K mg base CX (k + 1) f (PySem.W.fnOf name qual params body scope dV kV doc pm an cdv ct) ps sp := by
  refine ⟨len, fun A outer s H args us vs Q E hr e0 hb r hsp => ?_⟩
  have hl := len _ _ _ _ hsp
  have KX : K.In s.heap := e0.mod.kin.keeps fun b o e => (e0.bs b o e).1
  have lim : s.heap.NoLimit := e0.mod.nolimit.keeps fun b o e => (e0.bs b o e).1
  have hkind : ∀ y ∈ ps.zip us, scope.names.lookup y.1 = some .local ∨ (scope.names.lookup y.1 = some .cell ∧ ((cellsFrom (s.heap.objs.size + 1) scope.names []).lookup y.1).isSome = true) := fun ⟨n, v⟩ hy => by
    rcases S.par n (List.of_mem_zip hy).1 with q | q
    · exact .inl q
    · exact .inr ⟨q, PySem.W.cellsFrom_some _ _ _ (.inl q)⟩
  refine codeAny_call_function hr.depth (KX _ _ lk) rfl S.co S.gen rfl (PySem.W.codeRec_of KX hcd) (hb _ _ _ _ ?_)
  refine wpAny_newFunctionEnv_cells S.kind hkind fun env he s1 x => ?_
  subst he
  refine ⟨lim.keeps x.toInCall.keep, codeAny_func ?_⟩
  obtain ⟨t, ht, hq⟩ := hbody A outer s H vs Q E (hr.deeper _) hsp
  have I : Inv (cxOf CX P w K mg base N qual scope f cdv A outer s H E) [] (start N vs) H s1 := inv_start S hr.hd e0 hl r x
  refine wpAny_mono (ht [] s1 (start N vs) H _ I hq) (fun fl s' hs => ?_) fun e s' hs => hs
  have fin : ∀ {σ' : St} {H' : Hp} {v : V} {u : Value}, Inv (cxOf CX P w K mg base N qual scope f cdv A outer s H E) [] σ' H' s' → RelV v u → Q v H' → CE outer P w H s Q u s' :=
    fun {σ' H' v u} J rv q => ⟨v, H', J.os, J.bare, J.base, J.hok, rv, q⟩
  cases fl with
  | ret u =>
    obtain ⟨v, σ', H', J, rv, q⟩ := hs
    exact fin J rv q
  | next =>
    obtain ⟨σ', H', J, q⟩ := hs
    exact fin (v := V.non) (u := Value.none) J rfl q
  | brk =>
    obtain ⟨_, _, _, q⟩ := hs
    exact False.elim q
  | cont =>
    obtain ⟨_, _, _, q⟩ := hs
    exact False.elim q
end L2
namespace L2
open PySem PySem.Spec PyProof.Rows
section
variable {X : Cx} {x : Str} {p pos : Pos} {e : Expr} {es : List Expr} {t : TA} {id T : String} {r : List V → Hp → VK → Prop}
def tCB (r : List V → Hp → VK → Prop) (t : TA) : TE := fun σ H Q => t σ H fun vs H1 => r vs H1 Q
theorem pe_callB (hc : CallR X (.builtin id) r) (hg : Gl X x) (hm : X.mg x = none) (hv : bootBuiltins x = some (.builtin id)) (ha : PA X (e :: es) t) (hn : x ≠ "__name__" := by decide) (hdb : (x == ("__debug__" : Str)) = false := by decide)
    (he : starEach (e :: es) X.env = (false, eval e X.env) :: starEach es X.env := by rfl) (hpl : (backTo pos (starEach es X.env)).any (·.1) = false := by rfl) : PE X (.Call (.Name x p) (e :: es) [] pos) (tCB r t) := by
  intro pins s σ H Q I h
  refine wpAny_Call_Name_kw (ld_blt I hg hm hv ?_ hn hdb)
  exact PyProof.Rows.callWith_builtin1 (thn (ha pos pins s σ H _ I h) fun us s1 ⟨vs, H1, I1, r1, q1⟩ => hc pins s1 σ H1 vs us Q I1 r1 q1) he hpl
theorem pe_callTy (hc : CallR X (.type T) r) (hg : Gl X x) (hm : X.mg x = none) (hv : bootBuiltins x = some (.type T)) (ha : PA X (e :: es) t) (hn : x ≠ "__name__" := by decide) (hdb : (x == ("__debug__" : Str)) = false := by decide)
    (he : starEach (e :: es) X.env = (false, eval e X.env) :: starEach es X.env := by rfl) (hpl : (backTo pos (starEach es X.env)).any (·.1) = false := by rfl) : PE X (.Call (.Name x p) (e :: es) [] pos) (tCB r t) := by
  intro pins s σ H Q I h
  refine wpAny_Call_Name_kw (ld_blt I hg hm hv ?_ hn hdb)
  exact PyProof.Rows.callWith_type1 (thn (ha pos pins s σ H _ I h) fun us s1 ⟨vs, H1, I1, r1, q1⟩ => hc pins s1 σ H1 vs us Q I1 r1 q1) he hpl
end
end L2
namespace HT
open PySem PyProof.Rows
theorem eqAt_int (A : Around) (s : Shared) (a : Int) (t : Tok) (c : Int) (u : Tok) : ∃ e, SeqAt.EqAt A s (.int a t) (.int c u) e ∧ (e = true ↔ a = c) :=
  ⟨(a == c), SeqAt.EqAt.int_int a t c u, by simp⟩
section
open PySem.SeqAt
open PySem.AutoSeq1 (wpAny_loadPart')
open PySem.MeetsSeq PySem.MeetsSeq2 PySem.MeetsSeq3
end
section
variable {prog : Program} {w : World} {A : Around} {E : Value → Shared → Prop} {s : Shared}
def sIx (n d : Nat) : Option Int → Nat
  | none => d
  | some v => if v < 0 then (v + (n : Int)).toNat else min v.toNat n
theorem sIx_none (n d : Nat) : sIx n d none = d := rfl
theorem sIx_nat (n d k : Nat) : sIx n d (some (k : Int)) = min k n := by
  show (if (k : Int) < 0 then ((k : Int) + (n : Int)).toNat else min (k : Int).toNat n) = min k n
  rw [if_neg (by omega), Int.toNat_natCast]
theorem sIx_le (n d : Nat) (hd : d ≤ n) (o : Option Int) : sIx n d o ≤ n := by
  cases o with
  | none => exact hd
  | some v =>
    show (if v < 0 then (v + (n : Int)).toNat else min v.toNat n) ≤ n
    by_cases hv : v < 0
    · rw [if_pos hv]; omega
    · rw [if_neg hv]; exact Nat.min_le_right _ _
theorem clip_eq (v : Int) (n d : Nat) : (if v < 0 then max (v + (n : Int)) 0 else min v (n : Int)) = ((sIx n d (some v) : Nat) : Int) := by
  show (if v < 0 then max (v + (n : Int)) 0 else min v (n : Int)) = (((if v < 0 then (v + (n : Int)).toNat else min v.toNat n) : Nat) : Int)
  by_cases hv : v < 0
  · simp only [if_pos hv]; omega
  · simp only [if_neg hv]; omega
theorem adjust_gen (lo hi : Option Int) (n : Nat) : Builtin.Slice.sliceAdjust lo hi 1 (n : Int) = (((sIx n 0 lo : Nat) : Int), ((sIx n n hi : Nat) : Int)) := by
  have h1 : ¬ ((1 : Int) < 0) := by omega
  unfold Builtin.Slice.sliceAdjust
  simp only [h1, if_false]
  refine Prod.ext ?_ ?_
  · cases lo with
    | none => rfl
    | some v => exact clip_eq v n 0
  · cases hi with
    | none => rfl
    | some v => exact clip_eq v n n
theorem places_gen (i j : Nat) : Builtin.Slice.slicePlaces (i : Int) (j : Int) 1 = j - i := by
  unfold Builtin.Slice.slicePlaces
  have h1 : (1 : Int) > 0 := by omega
  simp only [h1, if_true, Int.ediv_one]
  split <;> omega
theorem slicePart_ {v : Value} {o : Option Int} {Q : Option Int → Shared → Prop} (p : IsPart v o) (h : Q o s) : wpAny (model prog w) A (Builtin.Slice.slicePartIndex v) Q E s := by
  cases p with
  | none => exact slicePart_none h
  | int i t => exact slicePart_int h
theorem sliceApplied_gen {sl : Addr} {vl vu : Value} {lo hi : Option Int} {n : Nat} {Q : Int × Int × Nat → Shared → Prop} (hs : s.heap.IsSliceOf sl vl vu .none) (pl : IsPart vl lo) (pu : IsPart vu hi)
    (h : Q (((sIx n 0 lo : Nat) : Int), 1, sIx n n hi - sIx n 0 lo) s) : wpAny (model prog w) A (Builtin.Slice.sliceApplied (.ref sl) (pure (n : Int))) Q E s := by
  obtain ⟨os, hos, hcs, hds⟩ := id hs
  unfold Builtin.Slice.sliceApplied Builtin.Slice.sliceFields
  refine wpAny_bind (wpAny_bind (wpAny_field hos hds (x := vl) rfl (wpAny_bind (wpAny_field hos hds (x := vu) rfl (wpAny_bind (wpAny_field hos hds (x := .none) rfl (wpAny_pure ?_)))))))
  refine wpAny_bind (slicePart_none ?_)
  show wpAny _ _ (if ((1 : Int) == 0) = true then _ else _) _ _ s
  rw [if_neg (by decide)]
  refine wpAny_bind (slicePart_ pl (wpAny_bind (slicePart_ pu (wpAny_bind (wpAny_pure ?_)))))
  show wpAny _ _ (match Builtin.Slice.sliceAdjust lo hi 1 (n : Int) with | (lo, hi) => pure (lo, (1 : Int), Builtin.Slice.slicePlaces lo hi 1)) _ _ s
  rw [adjust_gen lo hi n]
  show wpAny _ _ (pure (((sIx n 0 lo : Nat) : Int), (1 : Int), Builtin.Slice.slicePlaces ((sIx n 0 lo : Nat) : Int) ((sIx n n hi : Nat) : Int) 1)) _ _ s
  rw [places_gen]
  exact wpAny_pure h
theorem pick_gen (xs : Array Value) (i k : Nat) : ((List.range k).filterMap fun (m : Nat) => xs[((i : Int) + (m : Int) * 1).toNat]?).toArray = ((xs.toList.drop i).take k).toArray := by
  have e : (fun (m : Nat) => xs[((i : Int) + (m : Int) * 1).toNat]?) = fun m => xs[i + m]? := by
    funext m
    have : ((i : Int) + (m : Int) * 1).toNat = i + m := by omega
    rw [this]
  rw [e]
  have := pick_run xs i k
  rw [List.filterMap_map] at this
  have e2 : ((fun x => xs[x]?) ∘ fun x => i + x) = fun m => xs[i + m]? := rfl
  rw [e2] at this
  rw [this]
theorem getItem_tuple_cut {t sl : Addr} {items : Array Value} {vl vu : Value} {lo hi : Option Int} {Q : Value → Shared → Prop} (ht : IsTup s.heap t items) (hs : s.heap.IsSliceOf sl vl vu .none) (pl : IsPart vl lo) (pu : IsPart vu hi)
    (hw : ¬ (sIx items.size 0 lo = 0 ∧ sIx items.size items.size hi = items.size))
    (h : Q (.ref s.heap.objs.size) { s with heap := s.heap.push { cls := .type "tuple", data := .seq ((items.toList.drop (sIx items.size 0 lo)).take (sIx items.size items.size hi - sIx items.size 0 lo)).toArray } })
    (hsz : items.size ≤ sizeLine) : wpAny (model prog w) A (getItem (.ref t) (.ref sl)) Q E s := by
  have htake : sizeOk (.seq ((items.toList.drop (sIx items.size 0 lo)).take (sIx items.size items.size hi - sIx items.size 0 lo)).toArray) := by
    show ((items.toList.drop (sIx items.size 0 lo)).take (sIx items.size items.size hi - sIx items.size 0 lo)).toArray.size ≤ sizeLine
    rw [List.size_toArray, List.length_take, List.length_drop, Array.length_toList]
    omega
  have hj : sIx items.size items.size hi ≤ items.size := sIx_le _ _ (Nat.le_refl _) hi
  obtain ⟨os, hos, hcs, hds⟩ := id hs
  have hTs : s.TypeIs (.ref sl) "slice" := ⟨os, hos, hcs⟩
  unfold getItem
  try with_reducible refine wpAny_holding ?_
  first | refine wpAny_bind (wpAny_pure ?_) | skip
  refine wpAny_bind (wpAny_sequenceKey ht.typeIs (by decide) ?_)
  refine wpAny_bind (wpAny_callSpecial?_slot (name := Str.ofString "__getitem__") ht.typeIs PyProof.Rows.slot_tuple_getitem
    (wpAny_call_entry PyProof.Rows.slot_tuple_getitem ht.typeIs entry_tuple_getitem ?_ (args_tuple_getitem _ _)))
  show wpAny _ _ (Builtin.Tuple.tupleItemsOf (.ref t) >>= _) _ _ s
  refine wpAny_bind (tupleItemsOf_ ht ?_)
  refine wpAny_bind (wpAny_typeOf hTs ?_)
  rw [if_pos (by decide)]
  refine wpAny_bind (sliceApplied_gen hs pl pu ?_)
  have hno : ¬ ((((sIx items.size 0 lo : Nat) : Int) == 0 && (1 : Int) == 1 && (sIx items.size items.size hi - sIx items.size 0 lo) == items.size) = true) := by
    intro q
    rw [Bool.and_eq_true, Bool.and_eq_true] at q
    have q1 : ((sIx items.size 0 lo : Nat) : Int) = 0 := eq_of_beq q.1.1
    have q2 : sIx items.size items.size hi - sIx items.size 0 lo = items.size := eq_of_beq q.2
    exact hw ⟨by omega, by omega⟩
  show wpAny _ _ (if (((sIx items.size 0 lo : Nat) : Int) == 0 && (1 : Int) == 1 && (sIx items.size items.size hi - sIx items.size 0 lo) == items.size) = true then _ else _) _ _ s
  rw [if_neg hno, pick_gen]
  first
    | exact wpAny_bind (m := Builtin.Tuple.tupleExact _) (wpAny_newObj_type (wpAny_pure ⟨_, rfl, wpAny_pure h⟩) htake)
    | exact wpAny_bind (m := Builtin.Tuple.tupleExact _) (wpAny_newObj_type (wpAny_bind (wpAny_pure (wpAny_pure ⟨_, rfl, wpAny_pure h⟩))) htake)
    | exact wpAny_bind (wpAny_bind (m := Builtin.Tuple.tupleExact _) (wpAny_newObj_type (wpAny_pure (wpAny_pure ⟨_, rfl, wpAny_pure h⟩)) htake))
    | exact wpAny_bind (wpAny_bind (m := Builtin.Tuple.tupleExact _) (wpAny_newObj_type (wpAny_pure ⟨_, rfl, wpAny_pure h⟩) htake))
end
end HT
namespace L2
open PySem PySem.Spec PyProof.Rows
abbrev TO := St → Hp → (Option Int → Hp → Prop) → Prop
def PO (X : Cx) (e : Option Expr) (t : TO) : Prop :=
  ∀ (pins : List (Addr × Obj)) (s : Shared) (σ : St) (H : Hp) (Q : Option Int → Hp → Prop), Inv X pins σ H s → t σ H Q →
    wpAny (model X.prog X.w) X.A (evalPart e X.env) (fun u s' => ∃ o H', Inv X pins σ H' s' ∧ IsPart u o ∧ Q o H') X.xe s
def tNoPart : TO := fun _ H Q => Q none H
def tPart (t : TE) : TO := fun σ H Q => t σ H fun x H1 => ∃ i, x = .int i ∧ Q (some i) H1
theorem intsAre_of {ns : List Int} : ∀ {us : List Value}, Vals (ns.map V.int) us → IntsAre us ns := by
  induction ns with
  | nil => intro us r; rw [List.map_nil] at r; cases r; exact .nil
  | cons n ns ih =>
    intro us r
    rw [List.map_cons] at r
    cases r with
    | cons r1 r2 =>
      obtain ⟨t, e⟩ := r1
      subst e
      exact .cons n t (ih r2)
section
variable {X : Cx} {e : Expr} {te : TE} {lo hi : Option Expr} {tl th : TO} {pos p2 : Pos}
theorem po_none : PO X none tNoPart := by
  intro pins s σ H Q I h
  rw [evalPart_none]
  exact wpAny_pure ⟨none, H, I, .none, h⟩
theorem po_some (h : PE X e te) : PO X (some e) (tPart te) := by
  intro pins s σ H Q I hw
  rw [evalPart_some]
  refine thn (h pins s σ H _ I hw) fun u s1 ⟨x, H1, I1, r1, q1⟩ => ?_
  obtain ⟨i, rfl, q⟩ := q1
  obtain ⟨t, rfl⟩ := r1
  exact ⟨some i, H1, I1, .int i t, q⟩
def SlR (X : Cx) (r : V → Option Int → Option Int → Hp → VK → Prop) : Prop :=
  ∀ (pins : List (Addr × Obj)) (s : Shared) (σ : St) (H : Hp) (x : V) (v vl vu : Value) (lo hi : Option Int) (sl : Addr) (Q : VK), Inv X pins σ H s → RelV x v → s.heap.IsSliceOf sl vl vu .none → IsPart vl lo → IsPart vu hi → r x lo hi H Q →
    ∃ T id, typeLookup (.type T) "__getitem__" = pure (some (.builtin id)) ∧ s.TypeIs v T ∧ wpAny (model X.prog X.w) X.A (getItem v (.ref sl)) (EP X pins σ Q) X.xe s
def tSl (r : V → Option Int → Option Int → Hp → VK → Prop) (te : TE) (tl th : TO) : TE := fun σ H Q => te σ H fun x H1 => tl σ H1 fun l H2 => th σ H2 fun u H3 => r x l u H3 Q
theorem pe_slice {r : V → Option Int → Option Int → Hp → VK → Prop} (hr : SlR X r) (he : PE X e te) (hl : PO X lo tl) (hu : PO X hi th) : PE X (.Subscript e (.Slice lo hi none p2) pos) (tSl r te tl th) := by
  intro pins s σ H Q I h
  refine Subscript_ (thn (he pins s σ H _ I h) fun v s1 ⟨x, H1, I1, r1, q1⟩ => ?_)
  refine wpAny_Slice (thn (hl pins s1 σ H1 _ I1 q1) fun vl s2 ⟨l, H2, I2, pl, q2⟩ => thn (hu pins s2 σ H2 _ I2 q2) fun vu s3 ⟨u, H3, I3, pu, q3⟩ => ?_)
  rw [evalPart_none]
  refine wpAny_pure ?_
  have I4 : Inv X pins σ H3 { s3 with heap := s3.heap.push { cls := .type "slice", data := .fields #[vl, vu, .none] } } := I3.kept (t' := s3.toks) fun b ob q => Heap.get?_push_of_some _ q
  obtain ⟨T, id, hT, ht, hg⟩ := hr pins { s3 with heap := s3.heap.push { cls := .type "slice", data := .fields #[vl, vu, .none] } } σ H3 x v vl vu l u s3.heap.objs.size Q I4 r1 (Heap.IsSliceOf.new ..) pl pu q3
  show wpAny (model X.prog X.w) X.A (subscriptTail e (.Slice lo hi none p2) v (.ref s3.heap.objs.size)) (EP X pins σ Q) X.xe { s3 with heap := s3.heap.push { cls := .type "slice", data := .fields #[vl, vu, .none] } }
  exact tail_any (ops := [.ref s3.heap.objs.size, v]) ht hT hg (by with_unfolding_all rfl)
def cutV (xs : List V) (lo hi : Option Int) : List V := (xs.drop (HT.sIx xs.length 0 lo)).take (HT.sIx xs.length xs.length hi - HT.sIx xs.length 0 lo)
theorem cutV_length (xs : List V) (lo hi : Option Int) : (cutV xs lo hi).length ≤ xs.length := by
  unfold cutV
  rw [List.length_take, List.length_drop]
  omega
def rSlT (K : PySem.W.Frag) : V → Option Int → Option Int → Hp → VK → Prop := fun x lo hi H Q => ∃ a xs, x = .ref a ∧ SqT K H a xs ∧
  ¬ (HT.sIx xs.length 0 lo = 0 ∧ HT.sIx xs.length xs.length hi = xs.length) ∧ ∀ p, H p = none → Q (.ref p) (upd H p (.tup (cutV xs lo hi)))
theorem sl_tup : SlR X (rSlT X.K) := by
  intro pins s σ H x v vl vu lo hi sl Q I rx hs pl pu h
  obtain ⟨a, xs, rfl, hx, hw, q⟩ := h
  cases rx
  obtain ⟨its, r, ht, hz⟩ := I.tuple hx
  have hlen : its.toArray.size = xs.length := by rw [List.size_toArray]; exact r.length.symm
  refine ⟨"tuple", _, PyProof.Rows.slot_tuple_getitem.lookup, ht.typeIs, ?_⟩
  refine HT.getItem_tuple_cut ht hs pl pu (by rw [hlen]; exact hw) ?_ (by rw [hlen]; exact hz)
  rw [hlen]
  refine ⟨.ref s.heap.objs.size, _, I.laid (t' := s.toks) (o := .tup (cutV xs lo hi)) (fun b ob q => Heap.get?_push_of_some _ q) (Nat.le_refl _) ?_, rfl, q _ (I.hok.fresh (Nat.le_refl _))⟩
  exact ⟨Nat.le_trans (cutV_length xs lo hi) hz, _, (r.drop (HT.sIx xs.length 0 lo)).take (HT.sIx xs.length xs.length hi - HT.sIx xs.length 0 lo), IsTup.new _ _⟩
end
end L2
namespace L2
open PySem PySem.Spec PyProof.Rows
def ixN (n : Nat) (i : Int) : Option Nat := if 0 ≤ i then (if i < n then some i.toNat else none) else if -(n : Int) ≤ i then some (i + n).toNat else none
def atI {α : Type} (xs : List α) (i : Int) : Option α := (ixN xs.length i).bind fun j => xs[j]?
theorem ixN_seq {n : Nat} {i : Int} {j : Nat} (h : ixN n i = some j) : seqIndex? i n = some j ∧ j < n ∧ -(n : Int) ≤ i ∧ i < n := by
  unfold ixN at h
  by_cases h0 : 0 ≤ i
  · rw [if_pos h0] at h
    by_cases h1 : i < n
    · rw [if_pos h1] at h
      have e : i.toNat = j := Option.some.inj h
      exact ⟨by rw [seqIndex_of h0 h1, e], by omega, by omega, h1⟩
    · rw [if_neg h1] at h; cases h
  · rw [if_neg h0] at h
    by_cases h1 : -(n : Int) ≤ i
    · rw [if_pos h1] at h
      have e : (i + n).toNat = j := Option.some.inj h
      exact ⟨by rw [seqIndex_neg (by omega) h1, e], by omega, h1, by omega⟩
    · rw [if_neg h1] at h; cases h
theorem atI_get {α : Type} {xs : List α} {i : Int} {v : α} (h : atI xs i = some v) : ∃ j, seqIndex? i xs.length = some j ∧ xs[j]? = some v ∧ j < xs.length ∧ -(xs.length : Int) ≤ i ∧ i < xs.length := by
  unfold atI at h
  cases e : ixN xs.length i with
  | none => rw [e] at h; cases h
  | some j =>
    rw [e] at h
    obtain ⟨h1, h2, h3, h4⟩ := ixN_seq e
    exact ⟨j, h1, h, h2, h3, h4⟩
theorem atI_nat {α : Type} {xs : List α} {j : Nat} {v : α} (h : xs[j]? = some v) : atI xs (j : Int) = some v := by
  have hj : j < xs.length := (List.getElem?_eq_some_iff.mp h).1
  have e : ixN xs.length (j : Int) = some j := by
    unfold ixN
    rw [if_pos (by omega), if_pos (by omega)]; simp
  unfold atI; rw [e]; exact h
def PlainIx (b : Expr) : Prop := ∀ o i, subscripted b false o i = operate [o, i] (getItem o i)
def IxR (X : Cx) (r : R2) : Prop :=
  ∀ (value slice : Expr) (pins : List (Addr × Obj)) (s : Shared) (σ : St) (H : Hp) (x y : V) (v u : Value) (Q : VK), Inv X pins σ H s → RelV x v → RelV y u → r x y H Q →
    subscripted slice false v u = operate [v, u] (getItem v u) → wpAny (model X.prog X.w) X.A (subscriptTail value slice v u) (EP X pins σ Q) X.xe s
def MtR (X : Cx) (id : String) (r : V → List V → Hp → VK → Prop) : Prop :=
  ∀ (pins : List (Addr × Obj)) (s : Shared) (σ : St) (H : Hp) (x : V) (xs : List V) (v : Value) (us : List Value) (Q : VK), Inv X pins σ H s → RelV x v → Vals xs us → r x xs H Q →
    wpAny (model X.prog X.w) X.A (call (.builtin id) (v :: us)) (EP X pins σ Q) X.xe s
section
variable {X : Cx} {a b : Expr} {ta tb : TE} {pos : Pos}
theorem pe_ix {r : R2} (hr : IxR X r) (ha : PE X a ta) (hb : PE X b tb) (hs : PlainIx b) : PE X (.Subscript a b pos) (tOp r ta tb) := by
  intro pins s σ H Q I h
  exact Subscript_ (binT ha hb I h fun v u s2 x y H2 I2 rx ry q => hr a b pins s2 σ H2 x y v u Q I2 rx ry q (hs _ _))
def rIxL (K : PySem.W.Frag) : R2 := fun x y H Q => ∃ p xs i v, x = .ref p ∧ y = .int i ∧ SqL K H p xs ∧ atI xs i = some v ∧ Q v H
def rIxT (K : PySem.W.Frag) : R2 := fun x y H Q => ∃ p xs i v, x = .ref p ∧ y = .int i ∧ SqT K H p xs ∧ atI xs i = some v ∧ Q v H
theorem ix_list : IxR X (rIxL X.K) := by
  intro value slice pins s σ H x y v u Q I rx ry h hs
  obtain ⟨p, xs, i, z, rfl, rfl, hq, he, q⟩ := h
  cases rx
  obtain ⟨t, rfl⟩ := ry
  obtain ⟨its, r, pl, hz⟩ := I.list hq
  obtain ⟨j, h1, h2, h3, h4, h5⟩ := atI_get he
  obtain ⟨w, ew, rw'⟩ := r.get h2
  have hl := r.length
  have hn := line63
  have fin : EP X pins σ Q w s := ⟨z, H, I, rw', q⟩
  by_cases h0 : 0 ≤ i
  · have hj : i.toNat = j := by
      rw [seqIndex_of h0 h5] at h1
      exact Option.some.inj h1
    exact item_listR pl.isList h0 (by omega) (by rw [hj]; simpa using ew) fin hs
  · have hj : (i + (its.toArray.size : Int)).toNat = j := by
      rw [seqIndex_neg (by omega) h4] at h1
      rw [List.size_toArray, ← hl]
      exact Option.some.inj h1
    exact subscriptTail_builtinR (x := w) pl.isList.typeIs slot_list_getitem.lookup
      (wpAny_getItem_list_neg (Q := fun r s' => r = w ∧ EP X pins σ Q r s') pl.isList (by omega) (by rw [List.size_toArray] <;> omega) (by omega) (by rw [hj]; simpa using ew) ⟨rfl, fin⟩) hs
theorem ix_tup : IxR X (rIxT X.K) := by
  intro value slice pins s σ H x y v u Q I rx ry h hs
  obtain ⟨p, xs, i, z, rfl, rfl, hq, he, q⟩ := h
  cases rx
  obtain ⟨t, rfl⟩ := ry
  obtain ⟨its, r, pl, hz⟩ := I.tuple hq
  obtain ⟨j, h1, h2, h3, h4, h5⟩ := atI_get he
  obtain ⟨w, ew, rw'⟩ := r.get h2
  have hl := r.length
  have hn := line63
  have fin : EP X pins σ Q w s := ⟨z, H, I, rw', q⟩
  exact subscriptTail_builtinR (x := w) pl.typeIs slot_tuple_getitem.lookup
    (getItem_tuple (j := j) (Q := fun r s' => r = w ∧ EP X pins σ Q r s') pl (by omega) (by omega) (by rw [List.size_toArray, ← hl]; exact h1) (by simpa using ew) ⟨rfl, fin⟩) hs
theorem mapSeq_set (its : List Value) (n j : Nat) (u : Value) : Obj.mapSeq (·.setIfInBounds j u) { cls := .type "list", data := .seq its.toArray n } = { cls := .type "list", data := .seq (its.set j u).toArray n } := by
  simp [Obj.mapSeq]
theorem Inv.lst {pins : List (Addr × Obj)} {σ : St} {H : Hp} {s : Shared} {p : Addr} {xs : List V} (I : Inv X pins σ H s) (h : H p = some (.lst xs)) :
    ∃ (its : List Value) (n : Nat), Vals xs its ∧ s.heap.get? p = some { cls := .type "list", data := .seq its.toArray n } ∧ xs.length ≤ sizeLine := by
  obtain ⟨z, its, n, r, e⟩ := I.hok p _ h
  exact ⟨its, n, r, e, z⟩
theorem Inv.lstUpd {pins : List (Addr × Obj)} {σ : St} {H : Hp} {s : Shared} {p : Addr} {xs ys : List V} {its its' : List Value} {n n' : Nat} {f : Obj → Obj} (I : Inv X pins σ H s) (h : H p = some (.lst xs))
    (ho : s.heap.get? p = some { cls := .type "list", data := .seq its.toArray n }) (hf : f { cls := .type "list", data := .seq its.toArray n } = { cls := .type "list", data := .seq its'.toArray n' }) (r : Vals ys its') (hz : ys.length ≤ sizeLine) (t : Nat) :
    Inv X pins σ (upd H p (.lst ys)) { s with heap := s.heap.update p f, toks := t } := by
  have e : (s.heap.update p f).get? p = some { cls := .type "list", data := .seq its'.toArray n' } := by
    rw [Heap.get?_update_self f ho (by rw [hf] <;> rfl), hf]
  refine I.write (x := p) (e := p) (by rw [h]; trivial) (.inl rfl) (fun b u hb q => (Heap.get?_update_other _ _ (Ne.symm hb)).trans q) ⟨_, e⟩ ?_
  exact ⟨hz, its', n', r, e⟩
def rSetL : V → V → V → Hp → (Hp → Prop) → Prop := fun o i v H Q => ∃ p xs k j, o = .ref p ∧ i = .int k ∧ H p = some (.lst xs) ∧ ixN xs.length k = some j ∧ Q (upd H p (.lst (xs.set j v)))
theorem set_list : PSet X rSetL := by
  intro pins s σ H o i v ov iv u Q I ro ri rv h
  obtain ⟨p, xs, k, j, rfl, rfl, hp, hj, q⟩ := h
  cases ro
  obtain ⟨t, rfl⟩ := ri
  obtain ⟨its, n, r, ho, hz⟩ := I.lst hp
  obtain ⟨h1, h2, h3, h4⟩ := ixN_seq hj
  have hl := r.length
  have hn := line63
  have I' : Inv X pins σ (upd H p (.lst (xs.set j v))) { s with heap := s.heap.update p (Obj.mapSeq (·.setIfInBounds j u)) } :=
    I.lstUpd hp ho (mapSeq_set its n j u) (r.set rv j) (by rw [List.length_set]; exact hz) s.toks
  by_cases h0 : 0 ≤ k
  · have hk : k.toNat = j := by
      rw [seqIndex_of h0 h4] at h1
      exact Option.some.inj h1
    exact PySem.W.ki_setAt ho h0 (by omega) (by rw [List.size_toArray, ← hl]; exact h4) (by rw [hk]; exact ⟨_, I', q⟩)
  · have hk : (k + (its.toArray.size : Int)).toNat = j := by
      rw [seqIndex_neg (by omega) h3] at h1
      rw [List.size_toArray, ← hl]
      exact Option.some.inj h1
    exact PySem.W.ki_setBack ho (by omega) (by rw [List.size_toArray, ← hl]; exact h3) (by omega) (by rw [hk]; exact ⟨_, I', q⟩)
theorem slice_bounds (lo hi : Option Int) (n : Nat) : (sliceBounds lo hi none n).1 = ((HT.sIx n 0 lo : Nat) : Int) ∧ (sliceBounds lo hi none n).2.1 = ((HT.sIx n n hi : Nat) : Int) ∧ (sliceBounds lo hi none n).2.2 = 1 := by
  refine ⟨?_, ?_, rfl⟩
  · cases lo with
    | none => simp [sliceBounds, HT.sIx]
    | some i =>
      simp only [sliceBounds, HT.sIx, Option.getD_none, show (1 : Int) > 0 by decide, if_true]
      by_cases h : i < 0
      · simp only [h, if_true] <;> omega
      · simp only [h, if_false] <;> omega
  · cases hi with
    | none => simp [sliceBounds, HT.sIx]
    | some i =>
      simp only [sliceBounds, HT.sIx, Option.getD_none, show (1 : Int) > 0 by decide, if_true]
      by_cases h : i < 0
      · simp only [h, if_true] <;> omega
      · simp only [h, if_false] <;> omega
theorem slicePick_cut (its : List Value) (lo hi : Option Int) : slicePick its.toArray lo hi none = ((its.drop (HT.sIx its.length 0 lo)).take (HT.sIx its.length its.length hi - HT.sIx its.length 0 lo)).toArray := by
  obtain ⟨h1, h2, h3⟩ := slice_bounds lo hi its.toArray.size
  unfold slicePick
  rw [h1, h2, h3]
  simp only [sliceRange_one, pick_run, List.size_toArray] <;> rfl
def rSlL (K : PySem.W.Frag) : V → Option Int → Option Int → Hp → VK → Prop := fun x lo hi H Q => ∃ a xs, x = .ref a ∧ SqL K H a xs ∧ ∀ p, H p = none → Q (.ref p) (upd H p (.lst (cutV xs lo hi)))
theorem sl_list : SlR X (rSlL X.K) := by
  intro pins s σ H x v vl vu lo hi sl Q I rx hs pl pu h
  obtain ⟨a, xs, rfl, hx, q⟩ := h
  cases rx
  obtain ⟨its, r, ht, hz⟩ := I.list hx
  have hlen := r.length
  refine ⟨"list", _, slot_list_getitem.lookup, ht.isList.typeIs, ?_⟩
  refine wpAny_getItem_list_slice ht.isList hs pl pu .none (by simp) ?_ (by rw [List.size_toArray] <;> omega)
  rw [slicePick_cut, ← hlen]
  refine ⟨.ref s.heap.objs.size, _, I.laid (t' := s.toks) (o := .lst (cutV xs lo hi)) (fun b ob q => Heap.get?_push_of_some _ q) (Nat.le_refl _) ?_, rfl, q _ (I.hok.fresh (Nat.le_refl _))⟩
  exact ⟨Nat.le_trans (cutV_length xs lo hi) hz, _, 0, (r.drop (HT.sIx xs.length 0 lo)).take (HT.sIx xs.length xs.length hi - HT.sIx xs.length 0 lo), Heap.get?_push_size _ rfl⟩
def flatV : V → Bool
  | .non => true
  | .bl _ => true
  | .int _ => true
  | .str _ => true
  | _ => false
def eqV : V → V → Bool
  | .non, .non => true
  | .bl a, .bl b => a == b
  | .bl a, .int b => (if a then 1 else 0) == b
  | .int a, .bl b => a == (if b then 1 else 0)
  | .int a, .int b => a == b
  | .str a, .str b => a == b
  | _, _ => false
theorem eqAt_V {A : Around} {s : Shared} {y x : V} {u v : Value} (ry : RelV y u) (rx : RelV x v) (fy : flatV y = true) (fx : flatV x = true) : SeqAt.EqAt A s u v (eqV y x) := by
  cases y with
  | non =>
    cases ry
    cases x with
    | non => cases rx; exact SeqAt.EqAt.same _
    | bl b => cases rx; exact SeqAt.EqAt.none_bool b
    | int b => obtain ⟨t, rfl⟩ := rx; exact SeqAt.EqAt.none_int b t
    | str b => obtain ⟨t, rfl⟩ := rx; exact SeqAt.EqAt.none_str b t
    | _ => exact absurd (show false = true from fx) Bool.false_ne_true
  | bl a =>
    cases ry
    cases x with
    | non => cases rx; exact SeqAt.EqAt.bool_none a
    | bl b => cases rx; exact SeqAt.EqAt.bool_bool a b
    | int b => obtain ⟨t, rfl⟩ := rx; exact SeqAt.EqAt.bool_int a b t
    | str b => obtain ⟨t, rfl⟩ := rx; exact SeqAt.EqAt.bool_str a b t
    | _ => exact absurd (show false = true from fx) Bool.false_ne_true
  | int a =>
    obtain ⟨t', rfl⟩ := ry
    cases x with
    | non => cases rx; exact SeqAt.EqAt.int_none a t'
    | bl b => cases rx; exact SeqAt.EqAt.int_bool a t' b
    | int b => obtain ⟨t, rfl⟩ := rx; exact SeqAt.EqAt.int_int a t' b t
    | str b => obtain ⟨t, rfl⟩ := rx; exact SeqAt.EqAt.int_str a t' b t
    | _ => exact absurd (show false = true from fx) Bool.false_ne_true
  | str a =>
    obtain ⟨t', rfl⟩ := ry
    cases x with
    | non => cases rx; exact SeqAt.EqAt.str_none a t'
    | bl b => cases rx; exact SeqAt.EqAt.str_bool a t' b
    | int b => obtain ⟨t, rfl⟩ := rx; exact SeqAt.EqAt.str_int a t' b t
    | str b => obtain ⟨t, rfl⟩ := rx; exact SeqAt.EqAt.str_str a t' b t
    | _ => exact absurd (show false = true from fx) Bool.false_ne_true
  | _ => exact absurd (show false = true from fy) Bool.false_ne_true
def eqU (x : V) (u : Value) : Bool := match u with
  | .none => eqV .non x
  | .bool b => eqV (.bl b) x
  | .int i _ => eqV (.int i) x
  | .str z _ => eqV (.str z) x
  | _ => false
theorem eqU_of {x y : V} {u : Value} (r : RelV y u) (f : flatV y = true) : eqU x u = eqV y x := by
  cases y with
  | non => cases r; rfl
  | bl b => cases r; rfl
  | int i => obtain ⟨t, rfl⟩ := r; rfl
  | str z => obtain ⟨t, rfl⟩ := r; rfl
  | _ => exact absurd (show false = true from f) Bool.false_ne_true
theorem mem_eqAt {A : Around} {s : Shared} {x : V} {v : Value} (rx : RelV x v) (fx : flatV x = true) : ∀ {xs : List V} {us : List Value}, Vals xs us → xs.all flatV = true → ∀ u ∈ us, SeqAt.EqAt A s u v (eqU x u)
  | _, _, .nil, _ => fun u hu => by cases hu
  | y :: xs, u :: us, .cons r t, f => fun u' hu => by
    rw [List.all_cons, Bool.and_eq_true] at f
    rcases List.mem_cons.mp hu with rfl | hu
    · rw [eqU_of r f.1]; exact eqAt_V r rx f.1 fx
    · exact mem_eqAt rx fx t f.2 u' hu
theorem call_len_seq : CallR X (.builtin "len") (fun xs H Q => ∃ p ys, xs = [.ref p] ∧ (SqL X.K H p ys ∨ SqT X.K H p ys) ∧ Q (.int ys.length) H) := by
  intro pins s σ H xs us Q I r h
  obtain ⟨p, ys, rfl, hq, q⟩ := h
  obtain ⟨u, rfl, rx⟩ := vals1 r
  cases rx
  have hn := line63
  rcases hq with hq | hq
  · obtain ⟨its, r', pl, hz⟩ := I.list hq
    have hlen := r'.length
    exact Calls.call_len_list pl.isList (by simp only [List.size_toArray] <;> omega) ⟨.int ys.length, H, I.tok _, ⟨s.toks + 1, by rw [List.size_toArray, hlen]⟩, q⟩
  · obtain ⟨its, r', pl, hz⟩ := I.tuple hq
    have hlen := r'.length
    exact len_tuple pl (by simp only [List.size_toArray] <;> omega) ⟨.int ys.length, H, I.tok _, ⟨s.toks + 1, by rw [List.size_toArray, hlen]⟩, q⟩
theorem call_list_of : CallR X (.type "list") (fun xs H Q => ∃ p ys, xs = [.ref p] ∧ (SqL X.K H p ys ∨ SqT X.K H p ys) ∧ ∀ l, H l = none → Q (.ref l) (upd H l (.lst ys))) := by
  intro pins s σ H xs us Q I r h
  obtain ⟨p, ys, rfl, hq, q⟩ := h
  obtain ⟨u, rfl, rx⟩ := vals1 r
  cases rx
  have fin : ∀ (its : List Value), Vals ys its → ys.length ≤ sizeLine → ∀ (h' : Heap) (c' : Nat), (∀ b o', s.heap.get? b = some o' → h'.get? b = some o') →
      h'.get? s.heap.objs.size = some { cls := .type "list", dict := none, data := .seq its.toArray c', slots := #[] } → EP X pins σ Q (.ref s.heap.objs.size) { s with heap := h' } := fun its r' hz h' c' kp e =>
    ⟨.ref s.heap.objs.size, _, I.laid (t' := s.toks) kp (Nat.le_refl _) (show ObjOk X.prog X.w _ h' _ (.lst ys) from ⟨hz, its, c', r', e⟩), rfl, q _ (I.hok.fresh (Nat.le_refl _))⟩
  rcases hq with hq | hq
  · obtain ⟨its, r', pl, hz⟩ := I.list hq
    have hlen := r'.length
    obtain ⟨o, ho, hc, n, hd⟩ := pl.isList
    exact call_list_seq p (.inl rfl) ho hc hd (fun h' c' kp e => fin its r' hz h' c' kp e) (by simp only [List.size_toArray] <;> omega)
  · obtain ⟨its, r', pl, hz⟩ := I.tuple hq
    have hlen := r'.length
    obtain ⟨o, ho, hc, n, hd⟩ := pl
    exact call_list_seq p (.inr rfl) ho hc hd (fun h' c' kp e => fin its r' hz h' c' kp e) (by simp only [List.size_toArray] <;> omega)
def tyV (K : PySem.W.Frag) (T : String) (x : V) (H : Hp) : Prop := match x with
  | .str _ => T = "str"
  | .int _ => T = "int"
  | .ref p => (T = "list" ∧ ∃ xs, SqL K H p xs) ∨ (T = "tuple" ∧ ∃ o, K.lookup p = some o ∧ o.cls = .type "tuple" ∧ o.dict = none) ∨
      (T = "dict" ∧ ((∃ kvs, H p = some (.dK kvs)) ∨ ∃ kvs, H p = some (.dT kvs))) ∨ (T = "set" ∧ ∃ S n, H p = some (.set S n))
  | _ => False
theorem tyV_is {pins : List (Addr × Obj)} {σ : St} {H : Hp} {s : Shared} {T : String} {x : V} {v : Value} (I : Inv X pins σ H s) (r : RelV x v) (ty : tyV X.K T x H) :
    s.TypeIs v T ∧ ∀ a, v = .ref a → ∃ ob, s.heap.get? a = some ob ∧ ob.dict = none := by
  cases x with
  | str z =>
    obtain ⟨t, rfl⟩ := r
    cases (show T = "str" from ty)
    exact ⟨typeIs_str s z t, fun _ e => nomatch e⟩
  | int i =>
    obtain ⟨t, rfl⟩ := r
    cases (show T = "int" from ty)
    exact ⟨typeIs_int s i t, fun _ e => nomatch e⟩
  | ref p =>
    cases r
    rcases ty with ⟨rfl, xs, hq⟩ | ⟨rfl, o, hk, hc, hd⟩ | ⟨rfl, hk⟩ | ⟨rfl, S, n, hk⟩
    · obtain ⟨its, _, pl, _⟩ := I.list hq
      refine ⟨pl.isList.typeIs, fun a e => ?_⟩
      cases e
      obtain ⟨o, n, e, c, hd, _⟩ := pl
      exact ⟨o, e, hd⟩
    · refine ⟨⟨o, I.kIn p o hk, hc⟩, fun a e => ?_⟩
      cases e
      exact ⟨o, I.kIn _ o hk, hd⟩
    · have z : ∃ o, s.heap.get? p = some o ∧ o.ExactDict := by
        rcases hk with ⟨kvs, hk⟩ | ⟨kvs, hk⟩
        · obtain ⟨_, _, _, _, o, _, _, e, ex, _⟩ := I.hok p _ hk
          exact ⟨o, e, ex⟩
        · obtain ⟨_, _, _, _, o, _, _, e, ex, _⟩ := I.hok p _ hk
          exact ⟨o, e, ex⟩
      obtain ⟨o, e, ex⟩ := z
      refine ⟨⟨o, e, ex.1⟩, fun a e2 => ?_⟩
      cases e2
      exact ⟨o, e, ex.2.1⟩
    · obtain ⟨o, _, _, _, e, ex, _⟩ := I.hok p _ hk
      refine ⟨⟨o, e, ex.1⟩, fun a e2 => ?_⟩
      cases e2
      exact ⟨o, e, ex.2.1⟩
  | _ => exact False.elim ty
def tBM0 (K : PySem.W.Frag) (T : String) (r : V → List V → Hp → VK → Prop) (to : TE) : TE := fun σ H Q => to σ H fun x H1 => tyV K T x H1 ∧ r x [] H1 Q
def tBM (K : PySem.W.Frag) (T : String) (r : V → List V → Hp → VK → Prop) (to : TE) (t : TA) : TE := fun σ H Q => to σ H fun x H1 => tyV K T x H1 ∧ t σ H1 fun xs H2 => r x xs H2 Q
variable {o e : Expr} {es : List Expr} {to : TE} {t : TA} {name : Str} {apos cpos : Pos} {T id : String} {r : V → List V → Hp → VK → Prop}
theorem pe_bm0 (pa : PlainAttrs T) (slot : Slot T name id) (hty : typeOf (.builtin id) = pure (.type "method_descriptor")) (hm : MtR X id r) (ho : PE X o to)
    (hbase : attributeBase o name X.env (eval o X.env) = eval o X.env := by rfl) (hline : (apos.endLine == cpos.line) = true := by rfl) : PE X (.Call (.Attribute o name apos) [] [] cpos) (tBM0 X.K T r to) := by
  intro pins s σ H Q I h
  refine wpAny_Call_method0_late hbase hline (thn (ho pins s σ H _ I h) fun v s1 ⟨x, H1, I1, r1, ty, q1⟩ => ?_)
  obtain ⟨h1, h2⟩ := tyV_is I1 r1 ty
  exact ⟨T, id, pa, slot, hty, h1, h2, Calls.callWith_builtin rfl (PySem.evalArgs_none (hm pins s1 σ H1 x [] v [] Q I1 r1 .nil q1))⟩
theorem pe_bm (pa : PlainAttrs T) (slot : Slot T name id) (hty : typeOf (.builtin id) = pure (.type "method_descriptor")) (hm : MtR X id r) (ho : PE X o to) (ha : PA X (e :: es) t)
    (hbase : attributeBase o name X.env (eval o X.env) = eval o X.env := by rfl)
    (hfew : ((backTo cpos (starEach (e :: es) X.env)).all (fun x => !x.1) && (backToKw cpos (keywordEach [] X.env)).all (fun x => x.1.isSome)
      && decide ((e :: es).length + ([] : List Keyword).length + (if ([] : List Keyword).isEmpty then 0 else 1) < 30)) = true := by rfl)
    (hline : (apos.endLine == cpos.line) = true := by rfl) (hs : starEach (e :: es) X.env = (false, eval e X.env) :: starEach es X.env := by rfl) (hplain : (backTo cpos (starEach es X.env)).any (·.1) = false := by rfl) :
    PE X (.Call (.Attribute o name apos) (e :: es) [] cpos) (tBM X.K T r to t) := by
  intro pins s σ H Q I h
  refine wpAny_Call_method_late hbase hfew hline rfl (thn (ho pins s σ H _ I h) fun v s1 ⟨x, H1, I1, r1, ty, q1⟩ => ?_)
  obtain ⟨h1, h2⟩ := tyV_is I1 r1 ty
  refine ⟨T, id, pa, slot, hty, h1, h2, ?_⟩
  have hA := ha cpos pins s1 σ H1 _ I1 q1
  rw [hs] at hA ⊢
  refine Calls.callWith_builtin (by show (false || (backTo cpos (starEach es X.env)).any (·.1)) = false; rw [hplain] <;> rfl) (Calls.evalArgs_plain ?_)
  exact thn hA fun us s2 ⟨vs, H2, I2, r2, q2⟩ => hm pins s2 σ H2 x vs v us Q I2 r1 r2 q2
end
end L2
namespace L2
open PySem PySem.Spec PyProof.Rows
def MtM (X : Cx) (id : String) (r : V → List V → Hp → VK → Prop) : Prop :=
  ∀ (pins : List (Addr × Obj)) (s : Shared) (σ : St) (H : Hp) (x : V) (xs : List V) (v : Value) (us : List Value) (Q : VK), Inv X pins σ H s → RelV x v → Vals xs us → r x xs H Q →
    wpAny (model X.prog X.w) X.A (call (.builtin id) (v :: us)) (EP X pins σ Q) X.xe s
theorem Vals.one : ∀ {x : V} {us : List Value}, Vals [x] us → ∃ u, us = [u] ∧ RelV x u
  | _, _, .cons r .nil => ⟨_, rfl, r⟩
theorem Vals.zero : ∀ {us : List Value}, Vals [] us → us = []
  | _, .nil => rfl
theorem Vals.dropLast {xs : List V} {us : List Value} (h : Vals xs us) : Vals xs.dropLast us.dropLast := by
  induction h with
  | nil => exact .nil
  | cons r t ih =>
    cases t with
    | nil => exact .nil
    | cons q t' => exact .cons r ih
theorem Vals.eraseIdx : ∀ {xs : List V} {us : List Value} (i : Nat), Vals xs us → Vals (xs.eraseIdx i) (us.eraseIdx i)
  | _, _, _, .nil => .nil
  | _, _, 0, .cons _ t => t
  | _, _, i + 1, .cons r t => .cons r (Vals.eraseIdx i t)
theorem Vals.reverse {xs : List V} {us : List Value} (h : Vals xs us) : Vals xs.reverse us.reverse := by
  induction h with
  | nil => exact .nil
  | cons r t ih => rw [List.reverse_cons, List.reverse_cons]; exact Vals.append ih (.cons r .nil)
theorem Vals.rep {xs : List V} {us : List Value} (h : Vals xs us) : ∀ k : Nat, Vals (List.replicate k xs).flatten (List.replicate k us).flatten
  | 0 => .nil
  | k + 1 => by
    rw [List.replicate_succ, List.replicate_succ, List.flatten_cons, List.flatten_cons]
    exact Vals.append h (Vals.rep h k)
theorem erase_last {α : Type} (l : List α) : l.eraseIdx (l.length - 1) = l.dropLast := by
  induction l with
  | nil => rfl
  | cons a r ih =>
    cases r with
    | nil => rfl
    | cons b r =>
      have e : (a :: b :: r).length - 1 = ((b :: r).length - 1) + 1 := by
        have h1 : (a :: b :: r).length = r.length + 2 := rfl
        have h2 : (b :: r).length = r.length + 1 := rfl
        omega
      rw [e, List.eraseIdx_cons_succ, ih]
      all_goals rfl
theorem len_erase {α : Type} : ∀ (l : List α) (i : Nat), (l.eraseIdx i).length ≤ l.length
  | [], _ => Nat.le_refl _
  | _ :: _, 0 => Nat.le_succ _
  | _ :: r, i + 1 => Nat.succ_le_succ (len_erase r i)
section
variable {X : Cx} {pins : List (Addr × Obj)} {σ : St} {H : Hp} {s : Shared} {l b : Addr} {xs ys zs : List V}
theorem Inv.lset {its its' : List Value} {n : Nat} {f : Array Value → Array Value} {t' : Nat} (I : Inv X pins σ H s) (hH : H l = some (.lst xs))
    (e : s.heap.get? l = some { cls := .type "list", data := .seq its.toArray n }) (hf : f its.toArray = its'.toArray) (hv : Vals ys its') (hz : ys.length ≤ sizeLine) :
    Inv X pins σ (upd H l (.lst ys)) { s with heap := s.heap.update l (Obj.mapSeq f), toks := t' } := by
  have q := PySem.IsL.update e f
  rw [hf] at q
  refine I.write (x := l) (e := l) (by rw [hH]; exact trivial) (.inl rfl) (fun b' u hb hu => (Heap.get?_update_other s.heap (Obj.mapSeq f) (Ne.symm hb)).trans hu) ⟨_, q⟩ ?_
  exact ⟨hz, its', _, hv, q⟩
theorem Inv.lnew {its : List Value} {t' : Nat} (I : Inv X pins σ H s) (hv : Vals ys its) (hz : ys.length ≤ sizeLine) :
    Inv X pins σ (upd H s.heap.objs.size (.lst ys)) { s with heap := s.heap.push { cls := .type "list", data := .seq its.toArray }, toks := t' } :=
  I.laid (fun _ _ q => Heap.get?_push_of_some _ q) (Nat.le_refl _) ⟨hz, its, 0, hv, Heap.get?_push_size _ rfl⟩
theorem Inv.fresh (I : Inv X pins σ H s) : H s.heap.objs.size = none := I.hok.fresh (Nat.le_refl _)
theorem Inv.lstM (I : Inv X pins σ H s) (hH : H l = some (.lst xs)) : xs.length ≤ sizeLine ∧ ∃ (its : List Value) (n : Nat), Vals xs its ∧ xs.length = its.length ∧ s.heap.get? l = some { cls := .type "list", data := .seq its.toArray n } := by
  obtain ⟨z, its, n, r, e⟩ := I.hok l _ hH
  exact ⟨z, its, n, r, r.length, e⟩
end
section
variable {X : Cx}
def rAppend : V → List V → Hp → VK → Prop := fun x vs H Q => ∃ l xs y, x = .ref l ∧ vs = [y] ∧ H l = some (.lst xs) ∧ xs.length < sizeLine ∧ Q .non (upd H l (.lst (xs ++ [y])))
theorem mt_append : MtM X "list.append" rAppend := by
  intro pins s σ H x vs v us Q I rx rv h
  obtain ⟨l, xs, y, rfl, rfl, hH, hz, q⟩ := h
  cases rx
  obtain ⟨u, rfl, ru⟩ := rv.one
  obtain ⟨z, its, n, r, hl, e⟩ := I.lstM hH
  refine call_meets F.slot_list_append ⟨_, e, rfl⟩ F.entry_list_append (F.args_list_append_2 _ _) (PySem.list_append l its.toArray n u (by rw [List.size_toArray]; omega)) ⟨e, ?_⟩
  refine ⟨.non, _, I.lset (its' := its ++ [u]) hH e (by simp) (r.append (.cons ru .nil)) ?_, rfl, q⟩
  rw [List.length_append, List.length_singleton]
  omega
def rPop : V → List V → Hp → VK → Prop := fun x vs H Q => ∃ l xs y, x = .ref l ∧ vs = [] ∧ H l = some (.lst xs) ∧ xs[xs.length - 1]? = some y ∧ Q y (upd H l (.lst xs.dropLast))
theorem mt_pop : MtM X "list.pop" rPop := by
  intro pins s σ H x vs v us Q I rx rv h
  obtain ⟨l, xs, y, rfl, rfl, hH, hy, q⟩ := h
  cases rx
  have hus := rv.zero
  subst hus
  obtain ⟨z, its, n, r, hl, e⟩ := I.lstM hH
  obtain ⟨u, hu, ru⟩ := r.get hy
  have hy' : its.toArray[its.toArray.size - 1]? = some u := by
    show its.toArray[its.length - 1]? = some u
    rw [← Array.getElem?_toList, ← hl]
    exact hu
  refine call_meets F.slot_list_pop ⟨_, e, rfl⟩ F.entry_list_pop (F.args_list_pop_1 _) (MeetsSeq.list_pop_last l its.toArray n u hy' (by rw [List.size_toArray]; omega)) ⟨e, ?_⟩
  refine ⟨y, _, I.lset (its' := its.dropLast) hH e ?_ r.dropLast ?_, ru, q⟩
  · show its.toArray.eraseIdxIfInBounds (its.toArray.size - 1) = its.dropLast.toArray
    rw [List.size_toArray, List.eraseIdxIfInBounds_toArray, erase_last]
  · rw [List.length_dropLast]
    omega
def rPopAt : V → List V → Hp → VK → Prop := fun x vs H Q => ∃ l xs i k y, x = .ref l ∧ vs = [.int i] ∧ H l = some (.lst xs) ∧ -(2 ^ 63) ≤ i ∧ i < 2 ^ 63 ∧ seqIndex? i xs.length = some k ∧ xs[k]? = some y ∧ Q y (upd H l (.lst (xs.eraseIdx k)))
theorem mt_popAt : MtM X "list.pop" rPopAt := by
  intro pins s σ H x vs v us Q I rx rv h
  obtain ⟨l, xs, i, k, y, rfl, rfl, hH, h1, h2, hk, hy, q⟩ := h
  cases rx
  obtain ⟨u, rfl, ru⟩ := rv.one
  obtain ⟨t, rfl⟩ := ru
  obtain ⟨z, its, n, r, hl, e⟩ := I.lstM hH
  obtain ⟨w, hw, rw'⟩ := r.get hy
  refine call_meets F.slot_list_pop ⟨_, e, rfl⟩ F.entry_list_pop (F.args_list_pop_2 _ _)
    (MeetsSeq.list_pop_at l its.toArray n i t k w (fitsIndex_both h1 h2) (by rw [List.size_toArray, ← hl]; exact hk) (by rw [← Array.getElem?_toList]; exact hw) (by rw [List.size_toArray]; omega)) ⟨e, ?_⟩
  refine ⟨y, _, I.lset (its' := its.eraseIdx k) hH e ?_ (r.eraseIdx k) ?_, rw', q⟩
  · show its.toArray.eraseIdxIfInBounds k = (its.eraseIdx k).toArray
    rw [List.eraseIdxIfInBounds_toArray]
  · have := len_erase xs k
    omega
def rCat : R2 := fun x y H Q => ∃ l b xs zs, x = .ref l ∧ y = .ref b ∧ H l = some (.lst xs) ∧ H b = some (.lst zs) ∧ xs.length + zs.length ≤ sizeLine ∧ ∀ p, H p = none → Q (.ref p) (upd H p (.lst (xs ++ zs)))
theorem op_cat : OpR X (binaryOp .Add) rCat := by
  intro pins s σ H x y v u Q I rx ry h
  obtain ⟨l, b, xs, zs, rfl, rfl, hH, hB, hz, q⟩ := h
  cases rx
  cases ry
  obtain ⟨z, its, n, r, hl, e⟩ := I.lstM hH
  obtain ⟨z2, its2, n2, r2, hl2, e2⟩ := I.lstM hB
  refine PySem.P.add_list e e2 ?_ (by rw [List.size_toArray, List.size_toArray]; omega)
  have ea : its.toArray ++ its2.toArray = (its ++ its2).toArray := by simp
  rw [ea]
  exact ⟨.ref _, _, I.lnew (t' := s.toks) (r.append r2) (by rw [List.length_append]; omega), rfl, q _ I.fresh⟩
end
section
variable {prog : Program} {w : World} {A : Around} {E : Value → Shared → Prop} {s : Shared}
end
section
variable {X : Cx}
end
end L2
namespace L2
open PySem PySem.Spec PyProof.Rows
section
variable {κ : Type} [DecidableEq κ]
def valV (kvs : List (κ × V)) (k : κ) : Option V := (kvs.find? fun kv => decide (kv.1 = k)).map (·.2)
def putK (kvs : List (κ × V)) (k : κ) (v : V) : List (κ × V) :=
  if (kvs.any fun kv => decide (kv.1 = k)) = true then kvs.map (fun kv => if kv.1 = k then (kv.1, v) else kv) else kvs ++ [(k, v)]
def dropK (kvs : List (κ × V)) (k : κ) : List (κ × V) := kvs.filter fun kv => decide (kv.1 ≠ k)
theorem valV_pos {p : κ × V} {r : List (κ × V)} {k : κ} (e : p.1 = k) : valV (p :: r) k = some p.2 := by simp [valV, List.find?_cons, e]
theorem valV_neg {p : κ × V} {r : List (κ × V)} {k : κ} (e : ¬ p.1 = k) : valV (p :: r) k = valV r k := by simp [valV, List.find?_cons, e]
theorem valV_any (k : κ) : ∀ kvs : List (κ × V), (kvs.any fun kv => decide (kv.1 = k)) = (valV kvs k).isSome
  | [] => rfl
  | p :: r => by
    rw [List.any_cons]
    by_cases e : p.1 = k
    · simp only [valV_pos e, decide_eq_true e, Bool.true_or, Option.isSome_some]
    · rw [valV_neg e, decide_eq_false e, Bool.false_or]; exact valV_any k r
theorem length_putK (kvs : List (κ × V)) (k : κ) (v : V) : (putK kvs k v).length ≤ kvs.length + 1 := by
  unfold putK
  split
  · rw [List.length_map]; omega
  · rw [List.length_append, List.length_cons, List.length_nil]; omega
theorem putK_new {kvs : List (κ × V)} {k : κ} (v : V) (h : valV kvs k = none) : putK kvs k v = kvs ++ [(k, v)] := by
  unfold putK
  rw [valV_any, h]
  exact if_neg (by decide)
theorem RelO.isSome_eq {o : Option V} {u : Option Value} (r : RelO o u) : o.isSome = u.isSome := by
  cases o with
  | none => cases u with
    | none => rfl
    | some _ => exact (show False from r).elim
  | some _ => cases u with
    | none => exact (show False from r).elim
    | some _ => rfl
theorem RelO.getD {o : Option V} {u : Option Value} {d : V} {d' : Value} (r : RelO o u) (rd : RelV d d') : RelV (o.getD d) (u.getD d') := by
  cases o with
  | none => cases u with
    | none => exact rd
    | some _ => exact (show False from r).elim
  | some _ => cases u with
    | none => exact (show False from r).elim
    | some _ => exact r
theorem KV.val {kvs : List (κ × V)} {vs : List (κ × Value)} (r : KV kvs vs) (k : κ) : RelO (valV kvs k) (valueAt vs k) := by
  unfold KV at r
  induction r with
  | nil => exact True.intro
  | @cons p q ps qs h t ih =>
    obtain ⟨h1, h2⟩ := h
    by_cases e : p.1 = k
    · have e' : q.1 = k := h1.symm.trans e
      have b : valueAt (q :: qs) k = some q.2 := by simp [valueAt, List.find?_cons, e']
      rw [valV_pos e, b]; exact h2
    · have e' : ¬ q.1 = k := fun z => e (h1.trans z)
      have b : valueAt (q :: qs) k = valueAt qs k := by simp [valueAt, List.find?_cons, e']
      rw [valV_neg e, b]; exact ih
theorem KV.any {kvs : List (κ × V)} {vs : List (κ × Value)} (r : KV kvs vs) (k : κ) : (kvs.any fun kv => decide (kv.1 = k)) = vs.any fun kv => decide (kv.1 = k) := by
  unfold KV at r
  induction r with
  | nil => rfl
  | cons h t ih => rw [List.any_cons, List.any_cons, ih, h.1]
theorem KV.repl {kvs : List (κ × V)} {vs : List (κ × Value)} (r : KV kvs vs) (k : κ) {y : V} {u : Value} (ry : RelV y u) :
    KV (kvs.map fun kv => if kv.1 = k then (kv.1, y) else kv) (vs.map fun kv => if kv.1 = k then (kv.1, u) else kv) := by
  unfold KV at r ⊢
  induction r with
  | nil => exact .nil
  | @cons p q ps qs h t ih =>
    rw [List.map_cons, List.map_cons]
    refine .cons ?_ ih
    obtain ⟨h1, h2⟩ := h
    by_cases e : p.1 = k
    · rw [if_pos e, if_pos (h1.symm.trans e)]; exact ⟨h1, ry⟩
    · rw [if_neg e, if_neg (fun z => e (h1.trans z))]; exact ⟨h1, h2⟩
theorem KV.put {kvs : List (κ × V)} {vs : List (κ × Value)} (r : KV kvs vs) (k : κ) {y : V} {u : Value} (ry : RelV y u) : KV (putK kvs k y) (stored vs k u) := by
  unfold putK stored
  rw [r.any k]
  by_cases e : (vs.any fun kv => decide (kv.1 = k)) = true
  · rw [if_pos e, if_pos e]; exact r.repl k ry
  · rw [if_neg e, if_neg e]; exact Paired.snoc r ⟨rfl, ry⟩
theorem KV.drop {kvs : List (κ × V)} {vs : List (κ × Value)} (r : KV kvs vs) (k : κ) : KV (dropK kvs k) (without vs k) := by
  unfold KV at r ⊢
  unfold dropK without
  induction r with
  | nil => exact .nil
  | @cons p q ps qs h t ih =>
    obtain ⟨h1, h2⟩ := h
    rw [List.filter_cons, List.filter_cons]
    by_cases e : p.1 = k
    · have a : ¬ decide (p.1 ≠ k) = true := by simp [e]
      have b : ¬ decide (q.1 ≠ k) = true := by simp [h1.symm.trans e]
      rw [if_neg a, if_neg b]; exact ih
    · have e' : ¬ q.1 = k := fun z => e (h1.trans z)
      have a : decide (p.1 ≠ k) = true := by simp [e]
      have b : decide (q.1 ≠ k) = true := by simp [e']
      rw [if_pos a, if_pos b]; exact .cons ⟨h1, h2⟩ ih
theorem KV.keys {kvs : List (κ × V)} {vs : List (κ × Value)} (r : KV kvs vs) : kvs.map (·.1) = vs.map (·.1) := by
  unfold KV at r
  induction r with
  | nil => rfl
  | cons h t ih => rw [List.map_cons, List.map_cons, ih, h.1]
theorem KV.length {kvs : List (κ × V)} {vs : List (κ × Value)} (r : KV kvs vs) : kvs.length = vs.length := Paired.length r
end
theorem kV_is {P : Program} {w : World} {k : Key} {u : Value} (r : RelV (kV k) u) : (mixKind P w).is k u = true := by
  cases k with
  | inl i => obtain ⟨t, e⟩ := (show ∃ t, u = Value.int i t from r); subst e; exact mixKind_int P w i t
  | inr x => obtain ⟨t, e⟩ := (show ∃ t, u = Value.str x t from r); subst e; exact mixKind_str P w x t
theorem items_are {P : Program} {w : World} : ∀ {ks : List Key} {us : List Value}, Vals (ks.map kV) us → ItemsAre (mixKind P w) ks us
  | [], _, r => by rw [List.map_nil] at r; cases r; exact .nil
  | k :: ks, _, r => by
    rw [List.map_cons] at r
    cases r with
    | cons h t => exact .cons (kV_is h) (items_are t)
abbrev KT (H : Hp) : List (List Key × V) → List (List Key × Addr × Value) → Prop := Paired fun p q => p.1 = q.1 ∧ H q.2.1 = some (.tup (p.1.map kV)) ∧ RelV p.2 q.2.2
theorem KT.val {H : Hp} {kvs : List (List Key × V)} {xs : List (List Key × Addr × Value)} (r : KT H kvs xs) (k : List Key) : RelO (valV kvs k) ((atKey xs k).map (·.2)) := by
  induction r with
  | nil => exact True.intro
  | @cons p q ps qs h t ih =>
    obtain ⟨h1, _, h2⟩ := h
    by_cases e : p.1 = k
    · have e' : q.1 = k := h1.symm.trans e
      have b : atKey (q :: qs) k = some q.2 := by simp [atKey, List.find?_cons, e']
      rw [valV_pos e, b]; exact h2
    · have e' : ¬ q.1 = k := fun z => e (h1.trans z)
      have b : atKey (q :: qs) k = atKey qs k := by simp [atKey, List.find?_cons, e']
      rw [valV_neg e, b]; exact ih
theorem KT.repl {H : Hp} {kvs : List (List Key × V)} {xs : List (List Key × Addr × Value)} (r : KT H kvs xs) (k : List Key) {y : V} {u : Value} (ry : RelV y u) :
    KT H (kvs.map fun kv => if kv.1 = k then (kv.1, y) else kv) (xs.map (putAt k u)) := by
  induction r with
  | nil => exact .nil
  | @cons p q ps qs h t ih =>
    rw [List.map_cons, List.map_cons]
    refine .cons ?_ ih
    obtain ⟨h1, h2, h3⟩ := h
    unfold putAt
    by_cases e : p.1 = k
    · rw [if_pos e, if_pos (h1.symm.trans e)]; exact ⟨h1, h2, ry⟩
    · rw [if_neg e, if_neg (fun z => e (h1.trans z))]; exact ⟨h1, h2, h3⟩
theorem KT.put {H : Hp} {kvs : List (List Key × V)} {xs : List (List Key × Addr × Value)} (r : KT H kvs xs) (k : List Key) {b : Addr} {y : V} {u : Value} (hb : H b = some (.tup (k.map kV))) (ry : RelV y u) :
    KT H (putK kvs k y) (storedH xs k b u) := by
  have e : (kvs.any fun kv => decide (kv.1 = k)) = (atKey xs k).isSome := by
    rw [valV_any, (r.val k).isSome_eq, Option.isSome_map]
  unfold putK storedH
  rw [e]
  by_cases q : (atKey xs k).isSome = true
  · rw [if_pos q, if_pos q]; exact r.repl k ry
  · rw [if_neg q, if_neg q]; exact Paired.snoc r ⟨rfl, hb, ry⟩
theorem KT.keeps {H H' : Hp} {kvs : List (List Key × V)} {xs : List (List Key × Addr × Value)} (r : KT H kvs xs) (ht : ∀ b ys, H b = some (.tup ys) → H' b = some (.tup ys)) : KT H' kvs xs :=
  Paired.mapP r fun _ _ z => ⟨z.1, ht _ _ z.2.1, z.2.2⟩
section
variable {P : Program} {w : World} {H : Hp} {h : Heap} {a : Addr}
theorem rd_of {u : HO} (ok : HOk P w H h) (e : Rd H a u) : ObjOk P w H h a u := e.ok ok
theorem dk_rd {kvs : List (Key × V)} (ok : HOk P w H h) (e : Rd H a (.dK kvs)) : kvs.length ≤ sizeLine ∧ (a == sysModules) = false ∧ ∃ vs, KV kvs vs ∧ h.DictOf (mixKind P w) a vs :=
  show ObjOk P w H h a (.dK kvs) from rd_of ok e
theorem dk_of {kvs : List (Key × V)} (ok : HOk P w H h) (e : H a = some (.dK kvs)) : kvs.length ≤ sizeLine ∧ (a == sysModules) = false ∧ ∃ vs, KV kvs vs ∧ h.DictOf (mixKind P w) a vs := dk_rd ok (.inl e)
theorem key_of {ks : List Key} (ok : HOk P w H h) (e : H a = some (.tup (ks.map kV))) : (tupleKind (mixKind P w)).is h ks a := by
  obtain ⟨_, its, r, o, h1, h2, n, h3⟩ := (show ObjOk P w H h a (.tup (ks.map kV)) from ok a _ e)
  exact ⟨o, its.toArray, n, h1, h2, h3, by simpa using items_are r⟩
theorem dt_rd {kvs : List (List Key × V)} (ok : HOk P w H h) (e : Rd H a (.dT kvs)) : kvs.length ≤ sizeLine ∧ (a == sysModules) = false ∧
    ∃ xs, KT H kvs xs ∧ h.DictOfH (tupleKind (mixKind P w)) a xs := by
  obtain ⟨z, y, xs, r, o, es, ep, h1, h2, h3, h4, h5⟩ := (show ObjOk P w H h a (.dT kvs) from rd_of ok e)
  refine ⟨z, y, xs, r, o, es, ep, h1, h2, h3, h4, fun x hx => ?_, h5⟩
  have all : ∀ {l : List (List Key × V)} {m : List (List Key × Addr × Value)}, KT H l m → ∀ x ∈ m, (tupleKind (mixKind P w)).is h x.1 x.2.1 := by
    intro l m q
    induction q with
    | nil => intro x hx; exact nomatch hx
    | @cons p q ps qs hq t ih =>
      intro x hx
      rcases List.mem_cons.mp hx with e | hx
      · subst e
        exact key_of ok (by rw [← hq.1]; exact hq.2.1)
      · exact ih x hx
  exact all r x hx
theorem dt_of {kvs : List (List Key × V)} (ok : HOk P w H h) (e : H a = some (.dT kvs)) : kvs.length ≤ sizeLine ∧ (a == sysModules) = false ∧
    ∃ xs, KT H kvs xs ∧ h.DictOfH (tupleKind (mixKind P w)) a xs := dt_rd ok (.inl e)
end
def DGet (H : Hp) (a : Addr) (y : V) (r : Option V) : Prop :=
  (∃ kvs k, Rd H a (.dK kvs) ∧ y = kV k ∧ r = valV kvs k) ∨ ∃ kvs k b, Rd H a (.dT kvs) ∧ y = .ref b ∧ H b = some (.tup (k.map kV)) ∧ r = valV kvs k
def DPut (H : Hp) (a : Addr) (y v : V) (H' : Hp) : Prop :=
  (∃ kvs k, H a = some (.dK kvs) ∧ y = kV k ∧ kvs.length < sizeLine ∧ H' = upd H a (.dK (putK kvs k v))) ∨
  ∃ kvs k b, H a = some (.dT kvs) ∧ y = .ref b ∧ H b = some (.tup (k.map kV)) ∧ kvs.length < sizeLine ∧ H' = upd H a (.dT (putK kvs k v))
theorem DGet.k {H : Hp} {a : Addr} {kvs : List (Key × V)} {k : Key} (e : H a = some (.dK kvs)) : DGet H a (kV k) (valV kvs k) := .inl ⟨kvs, k, .inl e, rfl, rfl⟩
theorem DGet.t {H : Hp} {a b : Addr} {kvs : List (List Key × V)} {k : List Key} (e : H a = some (.dT kvs)) (eb : H b = some (.tup (k.map kV))) : DGet H a (.ref b) (valV kvs k) := .inr ⟨kvs, k, b, .inl e, rfl, eb, rfl⟩
theorem DPut.k {H : Hp} {a : Addr} {kvs : List (Key × V)} {k : Key} {v : V} (e : H a = some (.dK kvs)) (hl : kvs.length < sizeLine) : DPut H a (kV k) v (upd H a (.dK (putK kvs k v))) := .inl ⟨kvs, k, e, rfl, hl, rfl⟩
theorem DPut.t {H : Hp} {a b : Addr} {kvs : List (List Key × V)} {k : List Key} {v : V} (e : H a = some (.dT kvs)) (eb : H b = some (.tup (k.map kV))) (hl : kvs.length < sizeLine) :
    DPut H a (.ref b) v (upd H a (.dT (putK kvs k v))) := .inr ⟨kvs, k, b, e, rfl, eb, hl, rfl⟩
section
variable {X : Cx} {pins : List (Addr × Obj)} {σ : St} {H : Hp} {s : Shared} {a : Addr} {y v : V} {u r : Value} {o : Option V} {A : Around} {E : Value → Shared → Prop}
theorem Inv.big (I : Inv X pins σ H s) : sysModules < s.heap.objs.size := by
  have h : mainGlobals < s.heap.objs.size := (I.mod.glob.keeps I.bk).lt
  exact Nat.lt_trans (by decide) h
theorem d_getItem {Q : Value → Shared → Prop} (hu : A.units + 1 < cLine) (I : Inv X pins σ H s) (g : DGet H a y (some v)) (ry : RelV y u) (h : ∀ w' s', Inv X pins σ H s' → RelV v w' → Q w' s') :
    wpAny (model X.prog X.w) A (getItem (.ref a) u) Q E s := by
  rcases g with ⟨kvs, k, e, ey, l⟩ | ⟨kvs, k, b, e, ey, eb, l⟩
  · subst ey
    obtain ⟨z, hd, vs, rel, dd⟩ := dk_rd I.hok e
    obtain ⟨w', hw, rw'⟩ := RelO.some_of (v := v) (o := valueAt vs k) (by rw [l]; exact rel.val k)
    exact wpAny_getItem_of (kV_is ry) dd.mapOf hw (h w' _ (I.tok _) rw')
  · subst ey
    cases (show u = Value.ref b from ry)
    obtain ⟨z, hd, xs, rel, dd⟩ := dt_rd I.hok e
    obtain ⟨w', hw, rw'⟩ := RelO.some_of (v := v) (o := (atKey xs k).map (·.2)) (by rw [l]; exact rel.val k)
    obtain ⟨p, hp, hp2⟩ := Option.map_eq_some_iff.mp hw
    refine wpAny_getItem_heap (tupleKind_room_in1 hu) (key_of I.hok eb) dd hp ?_
    rw [hp2]
    exact h w' _ (I.tok _) rw'
theorem d_in {Q : Value → Shared → Prop} (hu : A.units + 1 < cLine) (I : Inv X pins σ H s) (g : DGet H a y o) (ry : RelV y u) (h : ∀ s', Inv X pins σ H s' → Q (.bool o.isSome) s') :
    wpAny (model X.prog X.w) A (compareOp .In u (.ref a)) Q E s := by
  rcases g with ⟨kvs, k, e, ey, l⟩ | ⟨kvs, k, b, e, ey, eb, l⟩
  · subst ey
    obtain ⟨z, hd, vs, rel, dd⟩ := dk_rd I.hok e
    refine wpAny_in_of (kV_is ry) hd dd.mapOf ?_
    rw [← (rel.val k).isSome_eq, ← l]
    exact h _ (I.tok _)
  · subst ey
    cases (show u = Value.ref b from ry)
    obtain ⟨z, hd, xs, rel, dd⟩ := dt_rd I.hok e
    refine wpAny_in_heap (tupleKind_room_in1 hu) (key_of I.hok eb) hd dd ?_
    have q := (rel.val k).isSome_eq
    rw [Option.isSome_map] at q
    rw [← q, ← l]
    exact h _ (I.tok _)
theorem d_write {h' : Heap} {t' : Nat} {ob : HO} (I : Inv X pins σ H s) (mu : Mut (H a)) (hs : Heap.SameBut a s.heap h') (he : ∃ q, h'.get? a = some q) (new : ObjOk X.prog X.w (upd H a ob) h' a ob) :
    Inv X pins σ (upd H a ob) { s with heap := h', toks := t' } :=
  I.write (x := a) (e := a) mu (.inl rfl) (fun b q hb z => (hs.2 b hb).trans z) he new
theorem dk_new {P : Program} {w : World} {H' : Hp} {h' : Heap} {kvs : List (Key × V)} {vs : List (Key × Value)} (z : kvs.length ≤ sizeLine) (hd : (a == sysModules) = false) (rel : KV kvs vs) (dd : h'.DictOf (mixKind P w) a vs) :
    ObjOk P w H' h' a (.dK kvs) := ⟨z, hd, vs, rel, dd⟩
theorem d_setItem {H' : Hp} {Q : Unit → Shared → Prop} (hu : A.units + 1 < cLine) (I : Inv X pins σ H s) (g : DPut H a y v H') (ry : RelV y u) (rv : RelV v r) (h : ∀ s', Inv X pins σ H' s' → Q () s') :
    wpAny (model X.prog X.w) A (setItem (.ref a) u r) Q E s := by
  rcases g with ⟨kvs, k, e, ey, l, eH⟩ | ⟨kvs, k, b, e, ey, eb, l, eH⟩
  · subst ey eH
    obtain ⟨z, hd, vs, rel, dd⟩ := dk_of I.hok e
    have hz : vs.length ≤ sizeLine := by rw [← rel.length]; exact z
    have hl : (putK kvs k v).length ≤ sizeLine := by have := length_putK kvs k v; omega
    refine wpAny_setItem_pairs (hsz := hz) (kV_is ry) dd fun h' dd' hs => h _ ?_
    have he : ∃ q, h'.get? a = some q := let ⟨q, _, _, hq, _⟩ := dd'; ⟨q, hq⟩
    exact d_write I (by rw [e]; exact True.intro) hs he (dk_new hl hd (rel.put k rv) dd')
  · subst ey eH
    cases (show u = Value.ref b from ry)
    obtain ⟨z, hd, xs, rel, dd⟩ := dt_of I.hok e
    have hz : xs.length ≤ sizeLine := by rw [← Paired.length rel]; exact z
    have hl : (putK kvs k v).length ≤ sizeLine := by have := length_putK kvs k v; omega
    refine wpAny_setItem_heap (hsz := hz) (tupleKind_room_in1 hu) (key_of I.hok eb) dd fun h' dd' hs => h _ ?_
    obtain ⟨q, es, ep, hq, h2, h3, h4, _, h5⟩ := dd'
    refine d_write I (by rw [e]; exact True.intro) hs ⟨q, hq⟩ ⟨hl, hd, _, (rel.put k eb rv).keeps fun c ys ec => ?_, q, es, ep, hq, h2, h3, h4, h5⟩
    rw [upd_ne (ne_of ec e (fun z => nomatch z))]
    exact ec
end
section
variable {X : Cx} {pins : List (Addr × Obj)} {σ : St} {H : Hp} {s : Shared} {a : Addr} {kvs : List (Key × V)} {k : Key} {u : Value} {A : Around} {E : Value → Shared → Prop}
end
def NoSl (i : Expr) : Prop := ∀ ov iv, subscripted i false ov iv = operate [ov, iv] (getItem ov iv)
theorem subD_of {prog : Program} {w : World} {A : Around} {E : Value → Shared → Prop} {s : Shared} {env : Env} {value slice : Expr} {pos : Pos} {T id : String} {Q : Value → Shared → Prop}
    (hl : typeLookup (.type T) "__getitem__" = pure (some (.builtin id))) (hs : NoSl slice)
    (h : wpAny (model prog w) A (eval value env) (fun o s₁ => wpAny (model prog w) A (eval slice env) (fun i s₂ => s₂.TypeIs o T ∧ wpAny (model prog w) A (getItem o i) Q E s₂) E s₁) E s) :
    wpAny (model prog w) A (eval (.Subscript value slice pos) env) Q E s := by
  refine Subscript_ (wpAny_mono h (fun o s₁ h₁ => wpAny_mono h₁ (fun i s₂ h₂ => ?_) fun _ _ x => x) fun _ _ x => x)
  obtain ⟨hT, h₂⟩ := h₂
  unfold subscriptTail
  refine wpAny_bind ?_
  rw [getitemInPython_of_ne hT.not_modules]
  refine wpAny_bind (wpAny_specialOf hT hl ?_)
  have fin : wpAny (model prog w) A (subscripted slice false o i) (fun r s₃ => wpAny (model prog w) A (letTemporaryGo value o r >>= fun _ => pure r) Q E s₃) E s₂ := by
    rw [hs o i]
    exact wpAny_operating (wpAny_mono h₂ (fun r s₃ h₃ => wpAny_bind (wpAny_letTemporaryGo (wpAny_pure h₃))) fun _ _ x => x)
  first
    | exact wpAny_pure (wpAny_bind fin)
    | exact wpAny_bind (wpAny_pure (wpAny_bind fin))
    | exact wpAny_bind fin
theorem dict_typeIs {X : Cx} {pins : List (Addr × Obj)} {σ : St} {H : Hp} {s : Shared} {a : Addr} {y : V} {o : Option V} (I : Inv X pins σ H s) (g : DGet H a y o) : s.TypeIs (.ref a) "dict" := by
  rcases g with ⟨kvs, k, e, _, _⟩ | ⟨kvs, k, b, e, _, _, _⟩
  · obtain ⟨_, _, vs, _, dd⟩ := dk_rd I.hok e
    exact dd.typeIs
  · obtain ⟨_, _, xs, _, dd⟩ := dt_rd I.hok e
    exact dd.typeIs
def tDGet (td ty : TE) : TE := fun σ H Q => td σ H fun x H1 => ty σ H1 fun y H2 => ∃ a v, x = .ref a ∧ DGet H2 a y (some v) ∧ Q v H2
def tDIn (ty td : TE) : TE := fun σ H Q => ty σ H fun y H1 => td σ H1 fun x H2 => ∃ a o, x = .ref a ∧ DGet H2 a y o ∧ Q (.bl o.isSome) H2
def sDPut (td ty tv : TE) : TS := fun D σ H => tv σ H fun v H1 => td σ H1 fun x H2 => ty σ H2 fun y H3 => ∃ a H4, x = .ref a ∧ DPut H3 a y v H4 ∧ D.nx σ H4
section
variable {X : Cx} {o i e value : Expr} {pos pos' tpos : Pos} {td ty tv : TE}
theorem pe_dget (hu : X.A.units + 1 < cLine) (ho : PE X o td) (hi : PE X i ty) (hs : NoSl i) : PE X (.Subscript o i pos) (tDGet td ty) := by
  intro pins s σ H Q I h
  refine subD_of PySem.F.slot_dict_getitem.lookup hs (thn (ho pins s σ H _ I h) fun u s1 ⟨x, H1, I1, rx, q1⟩ => thn (hi pins s1 σ H1 _ I1 q1) fun iv s2 ⟨y, H2, I2, ry, a, v, ex, g, q2⟩ => ?_)
  subst ex
  obtain rfl : u = Value.ref a := rx
  exact ⟨dict_typeIs I2 g, d_getItem hu I2 g ry fun w' s3 I3 rw' => ⟨v, H2, I3, rw', q2⟩⟩
theorem pc_din (hu : X.A.units + 1 < cLine) (hi : PE X i ty) (ho : PE X o td) : PC X .In i o (tDIn ty td) := by
  intro pins s σ H Q I h
  refine thn (hi pins s σ H _ I h) fun iv s1 ⟨y, H1, I1, ry, q1⟩ => thn (ho pins s1 σ H1 _ I1 q1) fun u s2 ⟨x, H2, I2, rx, a, ov, ex, g, q2⟩ => ?_
  subst ex
  obtain rfl : u = Value.ref a := rx
  exact d_in hu I2 g ry fun s3 I3 => ⟨.bl ov.isSome, H2, I3, rfl, q2⟩
theorem ps_dput (hu : X.A.units + 1 < cLine) (ho : PE X o td) (hi : PE X i ty) (hv : PE X value tv) (hs : swapsWith value (some (.Subscript o i pos')) pos.line X.env = pure false) :
    PS X (.Assign [.Subscript o i pos'] value pos) (sDPut td ty tv) := by
  intro pins s σ H D I h
  refine wpAny_Assign_Subscript (thn (hv pins s σ H _ I h) fun r s1 ⟨v, H1, I1, rv, q1⟩ => thn (ho pins s1 σ H1 _ I1 q1) fun u s2 ⟨x, H2, I2, rx, q2⟩ => thn (hi pins s2 σ H2 _ I2 q2) fun iv s3 ⟨y, H3, I3, ry, a, H4, ex, g, q3⟩ => ?_) hs
  subst ex
  obtain rfl : u = Value.ref a := rx
  exact d_setItem hu I3 g ry rv fun s4 I4 => ⟨σ, H4, I4, q3⟩
end
theorem dk_empty {P : Program} {w : World} {H : Hp} (h : Heap) (hb : sysModules < h.objs.size) : ObjOk P w H (h.push { cls := .type "dict", data := .dict #[] }) h.objs.size (.dK []) :=
  ⟨Nat.zero_le _, beq_eq_false_iff_ne.mpr (Ne.symm (Nat.ne_of_lt hb)), [], .nil, Heap.DictOf.new h⟩
def tDNewK : TE := fun _ H Q => ∀ p, H p = none → Q (.ref p) (upd H p (.dK []))
section
variable {X : Cx} {pos : Pos}
theorem pe_dnewK : PE X (.Dict [] [] pos) tDNewK := fun pins s σ H Q I h =>
  wpAny_Dict_empty ⟨.ref s.heap.objs.size, _, I.laid (a := s.heap.objs.size) (o := .dK []) (t' := s.toks) (fun _ _ q => Heap.get?_push_of_some _ q) (Nat.le_refl _) (dk_empty s.heap I.big), rfl, h _ (I.hok.fresh (Nat.le_refl _))⟩
end
structure M1 (X : Cx) (o : Expr) (m : Str) (apos : Pos) (e : Expr) (cpos : Pos) : Prop where
  base : attributeBase o m X.env (eval o X.env) = eval o X.env
  few : ((backTo cpos (starEach [e] X.env)).all (fun x => !x.1) && (backToKw cpos (keywordEach [] X.env)).all (fun x => x.1.isSome)
    && decide (([e] : List Expr).length + ([] : List Keyword).length + (if ([] : List Keyword).isEmpty then 0 else 1) < 30)) = true
  line : (apos.endLine == cpos.line) = true
  trees : backTo cpos (starEach [e] X.env) = [(false, eval e X.env)]
structure M2 (X : Cx) (o : Expr) (m : Str) (apos : Pos) (e f : Expr) (cpos : Pos) : Prop where
  base : attributeBase o m X.env (eval o X.env) = eval o X.env
  few : ((backTo cpos (starEach [e, f] X.env)).all (fun x => !x.1) && (backToKw cpos (keywordEach [] X.env)).all (fun x => x.1.isSome)
    && decide (([e, f] : List Expr).length + ([] : List Keyword).length + (if ([] : List Keyword).isEmpty then 0 else 1) < 30)) = true
  line : (apos.endLine == cpos.line) = true
  trees : backTo cpos (starEach [e, f] X.env) = [(false, eval e X.env), (false, eval f X.env)]
section
variable {X : Cx} {pins : List (Addr × Obj)} {σ : St} {H : Hp} {s : Shared} {a : Addr} {y d : V} {u r : Value} {o : Option V} {A : Around} {E : Value → Shared → Prop}
end
section
variable {X : Cx} {o e f : Expr} {apos cpos : Pos} {td ty tx : TE}
end
section
variable {X : Cx} {pins : List (Addr × Obj)} {σ : St} {H : Hp} {s : Shared} {a : Addr} {kvs : List (Key × V)} {A : Around} {E : Value → Shared → Prop}
end
section
variable {X : Cx} {pins : List (Addr × Obj)} {σ : St} {H : Hp} {s : Shared} {a : Addr} {y : V} {u : Value} {A : Around} {E : Value → Shared → Prop}
end
end L2
namespace Att
open PySem PySem.W PySem.Calls PyProof.Rows
theorem ints_of_wellAll {P : Params} {h : Heap} : ∀ (ns : List Int) (vs : List Value), WellAll P h vs (ns.map WData.int) → IntsAre vs ns := by
  intro ns
  induction ns with
  | nil =>
    intro vs w
    rw [List.map_nil] at w
    cases w
    exact .nil
  | cons n ns ih =>
    intro vs w
    rw [List.map_cons] at w
    cases w with
    | cons a b =>
      cases a
      exact .cons _ _ (ih _ b)
theorem script_of {l : OpenLaw} {n : Nat} (hn : l.most = some n) {P : Params} {h : Heap} {args : List WData} {vals : List Value}
    (hpre : l.row.toRowW.claim.pre args = true) (hwl : WellAll P h vals args) :
    ∃ a vs ns, vals = [Value.ref a] ∧ args = [WData.list (ns.map WData.int)] ∧ h.get? a = some { cls := .type "list", data := .seq vs.toArray } ∧ IntsAre vs ns ∧ ns.length ≤ n := by
  have hsh : WShape.hasAll [] args [.list .int] = true := (pre_splitW hpre).1
  have hc : l.pre.holds [] { args := args } = true := (pre_splitW hpre).2
  obtain ⟨d, r, rfl, h1, h2⟩ := hasAllW_cons hsh
  obtain rfl := hasAllW_nil h2
  obtain ⟨xs, rfl, h3⟩ := hasW_list h1
  obtain ⟨ns, rfl⟩ := items_int h3
  have hlen : ns.length ≤ n := by
    unfold OpenLaw.pre at hc
    have h4 : (WTm.not (.lt (.lit (.int (n : Int))) (.len (.arg 0)))).holds [] { args := [.list (ns.map .int)] } = true := by
      have h4 := (holds_andW hc).1
      rw [hn] at h4
      exact h4
    have h5 := condW_of h4 (w_not (w_lt w_lit (w_len_list (w_arg rfl))))
    rw [List.length_map] at h5
    refine Nat.le_of_not_lt fun q => ?_
    have q' : (n : Int) < ((ns.length : Nat) : Int) := by omega
    first
      | (rw [decide_eq_true q'] at h5; exact absurd h5 (by decide))
      | (simp at h5; omega)
  cases hwl with
  | cons w1 w2 =>
    cases w2
    cases w1 with
    | list ho hall => exact ⟨_, _, ns, rfl, rfl, ho, ints_of_wellAll ns _ hall, hlen⟩
theorem post_true (l : OpenLaw) (args : List WData) : l.row.toRowW.claim.post args (.bool true) args = true :=
  postW_of (r := l.row.toRowW) (X := (true == true))
    (show WShape.has [] (.bool true) .bool = true by first | rfl | decide | simp [WShape.has, WShape.arms, WShape.armsAll])
    (show (WTm.eq .res (.lit (.bool true))).value [] { args := args, res := some (.bool true), after := args } = some (.bool (true == true)) from w_eq_bool (w_res rfl) w_lit) rfl
theorem attach_call {l : OpenLaw} {n : Nat} {q : Program} {loose : List Str} {XP : (Str → Option Value) → Heap → Prop} {YP : World → Heap → Prop} {d : DefRec}
    (hn : l.most = some n) (hdf : d.params.defaults = [])
    (call : ∀ (w : World) (s₀ s₁ : Shared) (mg mb : Str → Option Value) (fa : Addr) (o : Obj) (pm cd doc : Value) (a : Addr) (vs : List Value) (ns : List Int),
      Ground q loose [] XP w s₀ mg mb s₁.heap → YP w s₁.heap →
      s₁.heap.get? fa = some o → o.data = .func (docDef d.name d.params d.body d.scope pm cd doc) → s₁.heap.CodeRec cd d.name → mg d.name = some (.ref fa) →
      s₁.heap.get? a = some { cls := .type "list", data := .seq vs.toArray } → IntsAre vs ns → ns.length ≤ n → s₁.gens = #[] →
      codeAny (model l.prog w) callerA (.call (.ref fa) ⟨[.ref a], []⟩) (fun r s' => r = .ok (.ret (.bool true)) ∧ OldK s₁.heap s'.heap ∧ s'.os = s₁.os ∧ AllBare s'.gens) s₁) :
    WalkO q loose XP YP l.row.toRowW d [] (fun f vs => PySem.call f vs) := by
  intro w s₀ s₁ mg mb G Y fa o pm cd doc dV kV ho hd hcd hD hmg hg args vals as hpre hlay hrd hwl hlo
  obtain rfl : dV = .none := Dflts.none hD hdf
  obtain rfl : kV = .none := Dflts.noKw hD
  obtain ⟨a, vs, ns, rfl, rfl, hobj, hints, hlen⟩ := script_of hn hpre hwl
  refine enter_call (codeAny_mono (call w s₀ s₁ mg mb fa o pm cd doc a vs ns G Y ho (fd_plain hd) hcd hmg hobj hints hlen hg) fun r s' hq => ?_)
  obtain ⟨rfl, h2, h3, h4⟩ := hq
  exact ⟨.inl ⟨.bool true, .bool true, [], rfl, fun _ => rfl, .bool true, post_true l _, fun _ => ⟨List.Pairwise.nil, fun _ hm => (nomatch hm)⟩⟩, h2, h3, h4⟩
section
variable {prog : Program} {w : World} {A : Around} {E : Value → Shared → Prop} {s : Shared} {K : Frag}
end
end Att
namespace L2
open PySem PySem.Spec PyProof.Rows
theorem vals_ints : ∀ {vs : List Value} {ns : List Int}, IntsAre vs ns → Vals (ns.map V.int) vs
  | _, _, .nil => .nil
  | _, _, .cons n t h => .cons ⟨t, rfl⟩ (vals_ints h)
def Only (H : Hp) : Prop := ∀ b, H b = none ∨ ∃ o xs, H b = some (.frz o (.lst xs))
theorem law_call {P : Program} {w : World} {K : PySem.W.Frag} {mg mb : Str → Option Value} {CX : CXT} {k : Nat} {fa a : Addr} {fd : FuncData} {x : Str} {sp : Sp} {s₁ : Shared} {vs : List Value} {ns : List Int}
    (KX : K.In s₁.heap) (hns : s₁.heap.Ns mainGlobals mg) (hb : s₁.heap.Ns builtinsNs mb) (hbb : ∀ x : Str, x ≠ "__name__" → mb x = bootBuiltins x) (hlim : s₁.heap.NoLimit) (hg : s₁.gens = #[])
    (ha : s₁.heap.get? a = some { cls := .type "list", data := .seq vs.toArray }) (hi : IntsAre vs ns) (hl : ns.length ≤ sizeLine) (hr : Room k callerA)
    (F : ∀ base : Heap, K.In base → base.Ns mainGlobals mg → FnOk P w K mg base CX k fa fd [x] sp) (hbind : ∀ (s : Shared) (u : Value), BindsTo s fd ⟨[u], []⟩ [(x, u)])
    (hsp : ∀ H : Hp, Only H → SqL K H a (ns.map V.int) → sp [.ref a] H (fun v _ => v = .bl true) fun _ _ _ => False)
    (hCX : ∀ H e s', CX [] H s₁ (fun _ _ _ => False) e s' → False) :
    codeAny (model P w) callerA (.call (.ref fa) ⟨[.ref a], []⟩) (fun r s' => r = .ok (.ret (.bool true)) ∧ OldK s₁.heap s'.heap ∧ s'.os = s₁.os ∧ AllBare s'.gens) s₁ := by
  have rv := vals_ints hi
  have lenV := hi.length
  -- from an abstract heap in which nothing but the script may be tracked
  have core : ∀ H : Hp, Only H → SqL K H a (ns.map V.int) → HOk P w H s₁.heap → (∀ b, H b ≠ none → b = a) → (H a ≠ none → K.lookup a = none) →
      codeAny (model P w) callerA (.call (.ref fa) ⟨[.ref a], []⟩) (fun r s' => r = .ok (.ret (.bool true)) ∧ OldK s₁.heap s'.heap ∧ s'.os = s₁.os ∧ AllBare s'.gens) s₁ := by
    intro H hO hS hok hA hK
    have base_of : ∀ {b : Addr} {o : Obj}, s₁.heap.get? b = some o → H b = none → (hidT s₁.heap H).get? b = some o := fun e n => hidT_get e n
    have noA : ∀ {b : Addr} {o : Obj} {es : Array DictEntry} {ep : Nat}, s₁.heap.get? b = some o → o.data = .dict es ep → H b = none := fun {b o es ep} e d => by
      cases q : H b with
      | none => rfl
      | some u =>
        have e' : b = a := hA b (by rw [q]; simp)
        subst e'
        rw [ha] at e; cases e
        have d' : Data.seq vs.toArray _ = Data.dict es ep := d
        cases d'
    have nsK : ∀ {b : Addr} {m : Str → Option Value}, s₁.heap.Ns b m → (hidT s₁.heap H).Ns b m := fun {b m} ⟨o, es, ep, e, d, r⟩ => ⟨o, es, ep, base_of e (noA e d), d, r⟩
    have hKb : K.In (hidT s₁.heap H) := fun b o e => base_of (KX b o e) (by
      cases q : H b with
      | none => rfl
      | some u =>
        have e' : b = a := hA b (by rw [q]; simp)
        subst e'
        rw [hK (by rw [q]; simp)] at e; cases e)
    have hM : Mod K mg (hidT s₁.heap H) := ⟨hKb, nsK hns, ⟨mb, nsK hb, hbb⟩, let ⟨mc, h1, h2⟩ := hlim; ⟨mc, nsK h1, h2⟩⟩
    have e0 : Env0 P w K mg (hidT s₁.heap H) callerA [] s₁ H := ⟨rfl, hM, fun b o e => of_hidT e, Nat.le_of_eq (hidT_size _ _), trivial, fun b hb => absurd (show b ∈ ([] : List Addr) from hb) (by simp), hok, .of_eq hg⟩
    refine codeAny_mono ((F _ hKb (nsK hns)).run callerA [] s₁ H ⟨[.ref a], []⟩ [.ref a] [.ref a] _ _ hr e0 (hbind s₁ (.ref a)) (.cons rfl .nil) (hsp H hO hS)) fun r s' h => ?_
    cases r with
    | error e => exact (hCX H e s' h).elim
    | ok fl =>
      cases fl with
      | next => exact False.elim h
      | brk => exact False.elim h
      | cont => exact False.elim h
      | ret u =>
        obtain ⟨v, H', os, bare, un, hok', r', q⟩ := h
        have q' : v = .bl true := q
        subst q'
        obtain rfl : u = Value.bool true := r'
        refine ⟨rfl, OldK.of_keep fun b o e => ?_, os, bare⟩
        cases q : H b with
        | none => exact un.keep b o e q (by intro z; exact absurd (show b ∈ ([] : List Addr) from z) (by simp)) (by simp)
        | some u =>
          rcases hO b with z | ⟨ob, xs, z⟩
          · rw [q] at z; cases z
          · have z2 := un.frzs b ob _ z
            obtain ⟨e1, _⟩ := hok b _ z
            obtain ⟨e2, _⟩ := hok' b _ z2
            rw [e] at e1; cases e1
            exact e2
  cases hk : K.lookup a with
  | some o =>
    -- the script is one of the module's own objects
    have e := KX a o hk
    rw [ha] at e
    cases e
    refine core (fun _ => none) (fun _ => .inl rfl) (.inr ⟨_, vs.toArray, _, hk, rfl, rfl, rfl, by rw [List.size_toArray, lenV]; exact hl, by simpa using rv⟩) (fun b u z => by have z' : (none : Option HO) = some u := z; cases z') (fun b z => absurd rfl z) fun z => absurd rfl z
  | none =>
    refine core (fun b => if b = a then some (.frz { cls := .type "list", data := .seq vs.toArray } (.lst (ns.map V.int))) else none) (fun b => ?_) (.inl (.inr ⟨{ cls := .type "list", data := .seq vs.toArray }, if_pos rfl⟩)) (fun b u z => ?_) (fun b z => ?_) fun _ => hk
    · by_cases hb : b = a
      · exact .inr ⟨_, _, if_pos hb⟩
      · exact .inl (if_neg hb)
    · by_cases hb : b = a
      · have z' := (if_pos hb).symm.trans z
        cases z'
        subst hb
        exact ⟨ha, by rw [List.length_map]; exact hl, vs, _, rv, ha⟩
      · have z' := (if_neg hb).symm.trans z
        cases z'
    · by_cases hb : b = a
      · exact hb
      · exact absurd (if_neg hb) z
end L2
namespace L2
open PySem PySem.Spec PyProof.Rows
theorem walk_of {l : PySem.W.OpenLaw} {n k : Nat} {q : Program} {loose : List Str} {XP : (Str → Option Value) → Heap → Prop} {YP : World → Heap → Prop} {d : DefRec} {K : Params → PySem.W.Frag} {CX : World → CXT} {sp : World → Sp} {x : Str}
    (hn : l.most = some n) (hn2 : n ≤ sizeLine) (hdf : d.params.defaults = []) (hr : Room k callerA)
    (hY : ∀ (w : World) (h : Heap), YP w h → (K w.params).In h)
    (F : ∀ (w : World) (mg : Str → Option Value) (fa : Addr) (h : Heap), (K w.params).In h → h.Ns mainGlobals mg → mg d.name = some (.ref fa) →
      ∃ fd : FuncData, (∀ (s : Shared) (u : Value), BindsTo s fd ⟨[u], []⟩ [(x, u)]) ∧
        ∀ base : Heap, (K w.params).In base → base.Ns mainGlobals mg → FnOk l.prog w (K w.params) mg base (CX w) k fa fd [x] (sp w))
    (hsp : ∀ (w : World) (H : Hp) (a : Addr) (ns : List Int), ns.length ≤ n → Only H → SqL (K w.params) H a (ns.map V.int) → sp w [.ref a] H (fun v _ => v = .bl true) fun _ _ _ => False)
    (hCX : ∀ (w : World) (H : Hp) (s : Shared) (e : Value) (s' : Shared), CX w [] H s (fun _ _ _ => False) e s' → False) :
    PySem.W.WalkO q loose XP YP l.row.toRowW d [] (fun f vs => PySem.call f vs) := by
  refine Att.attach_call hn hdf fun w s₀ s₁ mg mb fa o pm cd doc a vs ns G Y ho hd hcd hmg hobj hints hlen hg => ?_
  have KX := hY w _ Y
  obtain ⟨fd, hb, hF⟩ := F w mg fa _ KX G.T.g hmg
  exact law_call KX G.T.g G.T.b G.T.builtins G.T.nolimit hg hobj hints (Nat.le_trans hlen hn2) hr hF hb (fun H hO hS => hsp w H a ns hlen hO hS) fun H e s' => hCX w H s₁ e s'
end L2
namespace L2
open PySem PySem.Spec PyProof.Rows
def inClass (s : Stmt) (j : Nat) : Stmt := match s with
  | .ClassDef _ _ _ body _ _ _ _ _ _ _ => body.getD j (.Pass ⟨0, 0, 0, 0⟩)
  | _ => .Pass ⟨0, 0, 0, 0⟩
def defArgs (s : Stmt) : Arguments := match s with
  | .FunctionDef _ a _ _ _ _ _ _ _ _ => a
  | _ => { posonlyargs := [], args := [], vararg := none, kwonlyargs := [], kw_defaults := [], kwarg := none, defaults := [] }
def defBody (s : Stmt) : List Stmt := match s with
  | .FunctionDef _ _ b _ _ _ _ _ _ _ => b
  | _ => []
def defScope (s : Stmt) : Scope := match s with
  | .FunctionDef _ _ _ _ _ _ sc _ _ _ => sc
  | _ => { kind := .function, names := [], isGenerator := false, isCoroutine := false }
abbrev CX0 : CXT := fun _ _ _ _ _ _ => False
abbrev E0 : XK := fun _ _ _ => False
structure Fun (K : PySem.W.Frag) (x qual : Str) (st : Stmt) (f : Addr) (fd : FuncData) : Prop where
  ex : ∃ (oc : Value) (od : Option Addr) (kV doc pm : Value) (an : Option Addr) (cdv ct : Value) (osl : Array (Option Value)),
    fd = PySem.W.fnOf x qual (defArgs st) (defBody st) (defScope st) .none kV doc pm an cdv ct ∧ K.lookup f = some ⟨oc, od, .func fd, osl⟩ ∧ PySem.W.codeIn K cdv qual = true
  kp : PySem.W.keepIn K (.ref f) = true
section
variable {P : Program} {w : World} {K : PySem.W.Frag} {mg : Str → Option Value} {base : Heap}
theorem Fun.ok {x qual : Str} {st : Stmt} {f : Addr} {fd : FuncData} {N ps : List Str} {k : Nat} {sp : Sp} (F : Fun K x qual st f fd) (S : FnScope N ps (defScope st)) (len : ∀ vs H Q E, sp vs H Q E → vs.length = ps.length)
    (hbody : ∀ (cdv : Value) (A : Around) (outer : List Env) (s : Shared) (H : Hp) (vs : List V) (Q : VK) (E : XK), Room k (A.deeper (envOfC qual (defScope st) s.heap.objs.size f cdv)) → sp vs H Q E →
      ∃ t, PSs (cxOf CX0 P w K mg base N qual (defScope st) f cdv A outer s H E).nox (defBody st) t ∧ t { nx := fun _ H' => Q .non H', rt := Q } (start N vs) H) : FnOk P w K mg base CX0 (k + 1) f fd ps sp := by
  obtain ⟨oc, od, kV, doc, pm, an, cdv, ct, osl, rfl, lk, hcd⟩ := F.ex
  refine fn_of lk hcd S len fun A outer s H vs Q E hr hsp => ?_
  obtain ⟨t, h, q⟩ := hbody cdv A outer s H vs Q E hr hsp
  exact ⟨t, h.nox, q⟩
theorem Fun.binds {x qual : Str} {st : Stmt} {f : Addr} {fd : FuncData} {ps : List Str} (F : Fun K x qual st f fd)
    (h : ∀ (kV doc pm : Value) (an : Option Addr) (cdv ct : Value) (us : List Value), us.length = ps.length → bindArgs (PySem.W.fnOf x qual (defArgs st) (defBody st) (defScope st) .none kV doc pm an cdv ct) ⟨us, []⟩ = pure (ps.zip us)) : Binds K fd ps [] := by
  obtain ⟨oc, od, kV, doc, pm, an, cdv, ct, osl, rfl, lk, hcd⟩ := F.ex
  exact .all (h kV doc pm an cdv ct)
theorem fun_mk {x qual : Str} {st : Stmt} {f : Addr} {oc : Value} {od an : Option Addr} {osl : Array (Option Value)} {kV doc pm cdv ct : Value} (l : K.lookup f = some ⟨oc, od, .func (PySem.W.fnOf x qual (defArgs st) (defBody st) (defScope st) .none kV doc pm an cdv ct), osl⟩)
    (c : PySem.W.codeIn K cdv qual = true) (k : PySem.W.keepIn K (.ref f) = true) : Fun K x qual st f (PySem.W.fnOf x qual (defArgs st) (defBody st) (defScope st) .none kV doc pm an cdv ct) := ⟨⟨oc, od, kV, doc, pm, an, cdv, ct, osl, rfl, l, c⟩, k⟩
end
theorem hu_of {A : Around} {k : Nat} (hr : Room k A) : A.units + 1 < cLine := Nat.lt_of_le_of_lt (Nat.add_le_add_left (by decide : 1 ≤ 64) _) hr.units
section
variable {X : Cx}
theorem pv (i : Nat) {x : Str} {pos : Pos} (hN : X.N[i]? = some x := by rfl) (hv : Vis X.env.scope x := by first | exact Or.inl rfl | exact Or.inr (Or.inl rfl) | exact Or.inr (Or.inr rfl)) (hd : (x == ("__debug__" : Str)) = false := by decide)
    (hcd : (x == ("__classdict__" : Str)) = false := by decide) : PE X (.Name x pos) (tVar i) := pe_var hN hv hd hcd
end
theorem iteF {A B : Prop} (h : B) : if false = true then A else B := by
  rw [if_neg Bool.false_ne_true]
  exact h
theorem iteT {A B : Prop} (h : A) : if true = true then A else B := by
  rw [if_pos rfl]
  exact h
theorem ite2 {c A B : Prop} [Decidable c] (h1 : c → A) (h2 : ¬ c → B) : if c then A else B := by
  by_cases h : c
  · rw [if_pos h]
    exact h1 h
  · rw [if_neg h]
    exact h2 h
theorem iteNS {c A B : Prop} [Decidable c] (hc : c) (h : B) : if (!decide c) = true then A else B := by
  rw [decide_eq_true hc]
  exact iteF h
def Same (H H' : Hp) : Prop := ∀ b o, H b = some o → H' b = some o
theorem Same.refl (H : Hp) : Same H H := fun _ _ h => h
theorem Same.trans {H H1 H2 : Hp} (a : Same H H1) (b : Same H1 H2) : Same H H2 := fun c o h => b c o (a c o h)
theorem Same.free {H H' : Hp} (e : Same H H') {l : Addr} (h : H' l = Option.none) : H l = Option.none := by
  cases q : H l with
  | none => rfl
  | some o =>
    rw [e l o q] at h
    cases h
theorem Same.seq {K : PySem.W.Frag} {H H' : Hp} {a : Addr} {xs : List V} (e : Same H H') (h : SqL K H a xs) : SqL K H' a xs := by
  rcases h with (h | ⟨o, h⟩) | h
  · exact .inl (.inl (e _ _ h))
  · exact .inl (.inr ⟨o, e _ _ h⟩)
  · exact .inr h
section
variable {κ : Type} [DecidableEq κ]
theorem nd_snoc : ∀ {l : List κ} {k : κ}, l.Nodup → ¬ k ∈ l → (l ++ [k]).Nodup
  | [], k, _, _ => by simp
  | a :: r, k, h, hk => by
    obtain ⟨h1, h2⟩ := List.nodup_cons.mp h
    show (a :: (r ++ [k])).Nodup
    refine List.nodup_cons.mpr ⟨fun m => ?_, nd_snoc h2 fun m => hk (List.mem_cons.mpr (Or.inr m))⟩
    rcases List.mem_append.mp m with q | q
    · exact h1 q
    · exact hk (List.mem_cons.mpr (Or.inl (List.mem_singleton.mp q).symm))
end
end L2
namespace HT
open PySem PyProof.Rows
def lexLe : List Int → List Int → Bool
  | [], [] => true
  | [], _ :: _ => true
  | _ :: _, [] => false
  | x :: xs, y :: ys => if x = y then lexLe xs ys else decide (x ≤ y)
theorem lexLe_cons (x y : Int) (xs ys : List Int) : lexLe (x :: xs) (y :: ys) = if x = y then lexLe xs ys else decide (x ≤ y) := rfl
theorem lexLe_nil_nil : lexLe [] [] = true := rfl
theorem lexLe_nil_cons (y : Int) (ys : List Int) : lexLe [] (y :: ys) = true := rfl
theorem lexLe_cons_nil (x : Int) (xs : List Int) : lexLe (x :: xs) [] = false := rfl
theorem rcLe_int (A : Around) (s : Shared) (a : Int) (t : Tok) (c : Int) (u : Tok) (prog : Program) (w : World) (E : Value → Shared → Prop) (Q : Value → Shared → Prop) (h : Q (.bool (decide (a ≤ c))) s) :
    wpAny (model prog w) A (richCompare .LtE (.int a t) (.int c u)) Q E s :=
  (PyProof.Rows.le_int h : wpAny (model prog w) A (compareOp .LtE (.int a t) (.int c u)) Q E s)
section
open PySem.SeqAt
open PySem.AutoSeq1 (wpAny_loadPart')
open PySem.MeetsSeq PySem.MeetsSeq2 PySem.MeetsSeq3
theorem tuple_le_ints (l b : Addr) (items items2 : Array Value) (n n2 : Nat) (dd dd2 : Option Addr) (sl sl2 : Array (Option Value)) (ns ms : List Int) (hi : IntsAre items.toList ns) (hj : IntsAre items2.toList ms) :
    Meets (Builtin.«tuple.__le__» ⟨[.ref l, .ref b], []⟩)
      (fun _ R s => s.heap.get? l = some { cls := .type "tuple", dict := dd, data := .seq items n, slots := sl } ∧ s.heap.get? b = some { cls := .type "tuple", dict := dd2, data := .seq items2 n2, slots := sl2 } ∧
        R (.ok (.ret (.bool (lexLe ns ms)))) s) :=
  .of_wp fun prog w A R s h => by
    obtain ⟨hp, g, d, tk, os⟩ := s; obtain ⟨hl, hb, h⟩ := h
    have f2 := AutoSeq1.sub_tuple_tuple
    have z1 : items.size = ns.length := by rw [← hi.length]; simp
    have z2 : items2.size = ms.length := by rw [← hj.length]; simp
    wp_walk using wpAny_loadPart' hl, wpAny_loadPart' hb, wpAny_forIn_list _ (fun rest b s' => b.1 = none ∧ s' = ⟨hp, g, d, tk, os⟩ ∧ ∃ (vs ws : List Value) (ns' ms' : List Int), rest = vs.zip ws ∧
      IntsAre vs ns' ∧ IntsAre ws ms' ∧ ns'.length + items2.size = ms'.length + items.size ∧ R (.ok (.ret (.bool (lexLe ns' ms')))) ⟨hp, g, d, tk, os⟩) _
    case turn =>
      rintro ⟨y, x⟩ rest b s' ⟨hb', rfl, vs, ws, ns', ms', hz, hvi, hwi, hlen, hR⟩
      cases hvi with
      | nil => rw [List.zip_nil_left] at hz; cases hz
      | cons a t hvi' =>
        cases hwi with
        | nil => rw [List.zip_nil_right] at hz; cases hz
        | cons c u hwi' =>
          rw [List.zip_cons_cons] at hz
          injection hz with hyx hrest
          injection hyx with hy hx
          subst hy hx
          rw [lexLe_cons] at hR
          simp only [List.length_cons] at hlen
          obtain ⟨e, he, hiff⟩ := eqAt_int A.in1 ⟨hp, g, d, tk, os⟩ a t c u
          refine wpAny_bind (he prog w _ _ ?_)
          cases e with
          | true =>
            rw [if_pos (hiff.mp rfl)] at hR
            wp_walk
            exact ⟨rfl, rfl, _, _, _, _, hrest, hvi', hwi', by omega, hR⟩
          | false =>
            rw [if_neg (fun q => absurd (hiff.mpr q) Bool.false_ne_true)] at hR
            have hri := rcLe_int A.in1 ⟨hp, g, d, tk, os⟩ a t c u prog w
            wp_walk using hri
            exact ⟨_, rfl, by simpa using hR⟩
    case fin =>
      rintro ⟨b1, b2⟩ s' ⟨hb', rfl, vs, ws, ns', ms', hz, hvi, hwi, hlen, hR⟩
      simp only at hb'
      subst hb'
      have hv : lexLe ns' ms' = decide (items.size ≤ items2.size) := by
        cases hvi with
        | nil =>
          cases hwi with
          | nil =>
            simp only [List.length_nil] at hlen
            rw [lexLe_nil_nil]
            exact (decide_eq_true (by omega)).symm
          | cons c u hw =>
            simp only [List.length_nil, List.length_cons] at hlen
            rw [lexLe_nil_cons]
            exact (decide_eq_true (by omega)).symm
        | cons a t hv =>
          cases hwi with
          | nil =>
            simp only [List.length_nil, List.length_cons] at hlen
            rw [lexLe_cons_nil]
            exact (decide_eq_false (by omega)).symm
          | cons c u hw =>
            rw [List.zip_cons_cons] at hz
            cases hz
      rw [hv] at hR
      wp_walk
      exact ⟨_, rfl, by simpa [Builtin.Tuple.tupleCompareSizes] using hR⟩
    case h =>
      exact ⟨rfl, rfl, items.toList, items2.toList, ns, ms, rfl, hi, hj, by omega, h⟩
end
section
variable {prog : Program} {w : World} {A : Around} {E : Value → Shared → Prop} {s : Shared}
theorem le_tupInts {l b : Addr} {items items2 : Array Value} {ns ms : List Int} {Q : Value → Shared → Prop} (hl : IsTup s.heap l items) (hb : IsTup s.heap b items2) (hi : IntsAre items.toList ns) (hj : IntsAre items2.toList ms)
    (hu : A.units < cLine) (h : Q (.bool (lexLe ns ms)) s) : wpAny (model prog w) A (compareOp .LtE (.ref l) (.ref b)) Q E s := by
  obtain ⟨⟨cls, dd, data, sl⟩, ho, hc, n, hd⟩ := id hl
  obtain ⟨⟨cls2, dd2, data2, sl2⟩, ho2, hc2, n2, hd2⟩ := id hb
  simp only at hc hd hc2 hd2
  subst hc hd hc2 hd2
  exact richCompare_meets_room (op := .LtE) ⟨_, ho, rfl⟩ ⟨_, ho2, rfl⟩ PySem.F.slot_tuple_le PySem.F.entry_tuple_le (PySem.F.args_tuple_le_2 _ _) (tuple_le_ints l b items items2 n n2 dd dd2 sl sl2 ns ms hi hj)
    ⟨ho, ho2, show Value.bool (lexLe ns ms) ≠ Value.notImplemented ∧ Q (.bool (lexLe ns ms)) s from ⟨(fun x => nomatch x), h⟩⟩ hu
end
end HT
namespace L2
open PySem PySem.Spec PyProof.Rows
section
variable {X : Cx}
def rLeT (K : PySem.W.Frag) : R2 := fun x y H Q => ∃ a b ns ms, x = .ref a ∧ y = .ref b ∧ SqT K H a (ns.map V.int) ∧ SqT K H b (ms.map V.int) ∧ Q (.bl (HT.lexLe ns ms)) H
theorem op_leT (hu : X.A.units < cLine) : OpR X (compareOp .LtE) (rLeT X.K) := by
  intro pins s σ H x y v u Q I rx ry h
  obtain ⟨a, b, ns, ms, rfl, rfl, ha, hb, q⟩ := h
  cases rx
  cases ry
  obtain ⟨its, r1, p1, _⟩ := I.tuple ha
  obtain ⟨its2, r2, p2, _⟩ := I.tuple hb
  have i1 : IntsAre its.toArray.toList ns := intsAre_of r1
  have i2 : IntsAre its2.toArray.toList ms := intsAre_of r2
  exact HT.le_tupInts p1 p2 i1 i2 hu ⟨.bl (HT.lexLe ns ms), H, I, rfl, q⟩
end
end L2
set_option Elab.async false
set_option linter.all false
set_option maxRecDepth 100000
set_option maxHeartbeats 4000000
namespace My
open PySem PySem.W PyProof.Rows
def goT (tb : String → Option Builtin) (p : Program) (w : World) (n₀ : Nat) (ann : Option Value) : Nat → SharedT → Thread → Option SharedT
  | 0, _, _ => none
  | n + 1, s, t => match through t with
    | true => some s
    | false => match stepOk n₀ ann t with
      | false => none
      | true => match stepT (denote tb) p w s t with
        | some (s', t') => goT tb p w n₀ ann n s' t'
        | none => none
def growT : List Obj → Nat → BT → BT
  | [], _, t => t
  | o :: r, n, t => growT r (n + 1) (t.ins n o)
theorem goT_of {tb : String → Option Builtin} {p : Program} {w : World} {n₀ : Nat} {ann : Option Value} : ∀ {n : Nat} {s r : SharedT} {t : Thread}, goT tb p w n₀ ann n s t = some r → topRun tb p w n₀ ann n s.abs t = some r.abs
  | 0, _, _, _, h => by cases h
  | n + 1, s, r, t, h => by
    unfold goT at h
    unfold topRun
    cases ht : through t with
    | true => rw [ht] at h; cases h; rfl
    | false =>
      rw [ht] at h
      cases hk : stepOk n₀ ann t with
      | false => rw [hk] at h; cases h
      | true =>
        rw [hk] at h
        cases hs : stepT (denote tb) p w s t with
        | none => rw [hs] at h; cases h
        | some r => obtain ⟨s₂, t₂⟩ := r; rw [hs] at h; rw [stepT_spec hs]; exact goT_of h
noncomputable def bootT (P : Params) : BT := growT (boot_heap P).objs.toList 0 .nil
theorem boot_tree (P : Params) : absHeap (bootT P) (boot_heap P).objs.size (boot_heap P).life = boot_heap P := by kernel_rfl
theorem boot_ns (P : Params) : ((boot_heap P).isNs mainGlobals && (Array.mk ([] : List GenState)).size == 0) = true := by kernel_rfl
noncomputable def lookT (p q : Program) (loose : List Str) (recs : WRecords) (as : List Addr) (N : Nat) (w : World) (os : OsState) :=
  (goT treeTable p w (boot_heap w.params).objs.size ((boot_heap w.params).nsMap mainGlobals "__annotations__") N ⟨bootT w.params, (boot_heap w.params).objs.size, (boot_heap w.params).life, Array.mk [], boot_drawn, boot_toks, os⟩ (topStub p)).map fun s =>
    ((staticsOk (importedModules p.main.body) (boot_heap w.params) s.abs.heap && namesBound p s.abs.heap && gensDone s.abs && laidKept (boot_heap w.params) s.abs.heap),
      openSeen q loose (importedModules p.main.body) (fun s => xlAt q [] s && recOk recs s) true s.abs, as.map s.abs.heap.get?)
theorem prime0 : ((fun (_ : Program → Program → List Str → WRecords → List Addr → Nat → World → OsState → Bool) => true) fun p q l r a n w o => (lookT p q l r a n w o).isSome) = true := by k_qdec
theorem left_of {p q : Program} {loose : List Str} {recs : WRecords} {as : List Addr} {K : Params → Frag} {e : ∀ P, as = (K P).map (·.1)} {N : Nat} (e1 : opening p = plainProg p.main.scope.names) (hN : Nat.ble 600 N = true) (hf : ∀ s, fenceModules? p s = some s)
    (h : ∀ w os, lookT p q loose recs as N w os = some (true, openGood q loose, (K w.params).map fun p => some p.2)) : LeftO p q loose (fun s => xlAt q [] s && recOk recs s) (kHook K as e).obs (kHook K as e).val N := fun w => by
  obtain ⟨⟨h0, gs, d, k, os⟩, e2, e3⟩ := Option.map_eq_some_iff.mp (boot_open e1 hN hf w)
  obtain ⟨rfl, rfl, rfl, rfl⟩ : h0 = boot_heap w.params ∧ gs = Array.mk [] ∧ d = boot_drawn ∧ k = boot_toks := by simpa using e3
  obtain ⟨s, r, l⟩ := Option.map_eq_some_iff.mp (h w os)
  obtain ⟨l1, l2, l3⟩ : _ ∧ _ ∧ _ := by simpa only [Prod.mk.injEq] using l
  have r' := goT_of r
  have es : (SharedT.mk (bootT w.params) (boot_heap w.params).objs.size (boot_heap w.params).life (Array.mk []) boot_drawn boot_toks os).abs = ⟨boot_heap w.params, Array.mk [], boot_drawn, boot_toks, os⟩ := by
    unfold SharedT.abs
    dsimp only
    rw [boot_tree]
  rw [es] at r'
  have t : topFrom treeTable p w N ⟨boot_heap w.params, Array.mk [], boot_drawn, boot_toks, os⟩ = some s.abs := by
    unfold topFrom
    dsimp only
    rw [boot_ns, r']
    show (match staticsOk (importedModules p.main.body) (boot_heap w.params) s.abs.heap && namesBound p s.abs.heap && gensDone s.abs && laidKept (boot_heap w.params) s.abs.heap with | true => _ | false => _) = _
    rw [l1]
  unfold openEnds
  rw [e2]
  show (topFrom treeTable p w N _).map _ = _
  rw [t]
  exact congrArg some (Prod.ext l2 l3)
end My
set_option Elab.async false
set_option linter.all false
set_option maxRecDepth 100000
set_option maxHeartbeats 4000000
namespace L2
open PySem PySem.Spec PyProof.Rows
theorem ObjOk.there {P : Program} {w : World} {H : Hp} {h : Heap} {a : Addr} {o : HO} (x : ObjOk P w H h a o) : ∃ ob, h.get? a = some ob := by
  cases o with
  | lst xs => obtain ⟨_, _, _, _, e⟩ := x; exact ⟨_, e⟩
  | tup xs => obtain ⟨_, _, _, ob, e, _⟩ := x; exact ⟨ob, e⟩
  | dK kvs => obtain ⟨_, _, _, _, ob, _, _, e, _⟩ := x; exact ⟨ob, e⟩
  | dT kvs => obtain ⟨_, _, _, _, ob, _, _, e, _⟩ := x; exact ⟨ob, e⟩
  | set S n => obtain ⟨ob, _, _, _, e, _⟩ := x; exact ⟨ob, e⟩
  | ins C dx fs => obtain ⟨_, _, _, e, _⟩ := x; exact ⟨_, e⟩
  | own y => obtain ⟨ob, e⟩ := x; exact ⟨ob, e⟩
  | xd fs => obtain ⟨_, ⟨ob, _, _, e, _⟩, _⟩ := x; exact ⟨ob, e⟩
  | rng lo hi => obtain ⟨_, _, _, e⟩ := x; exact ⟨_, e⟩
  | frz ob u => obtain ⟨e, _⟩ := x; exact ⟨_, e⟩
  | tbl ps => exact ⟨_, (show h.get? a = some _ from x)⟩
  | met f y => exact ⟨_, (show h.get? a = some _ from x)⟩
  | ext φ => obtain ⟨_, e, _⟩ := x; exact e
structure FlyAt (H : Hp) (h0 : Heap) (a C : Addr) (h : Heap) : Prop where
  ex : ∃ (oe : Obj) (vs : Array Value) (T : Addr) (oT : Obj) (ts : Array Value) (a0 : Value), h.get? a = some oe ∧ oe.cls = Value.ref C ∧ oe.data = .fields vs ∧ vs[0]? = some a0 ∧
    vs[1]? = some (.ref T) ∧ T ≠ a ∧ h.get? T = some oT ∧ oT.data = .fields ts ∧ ts[3]? = some .none ∧ h0.get? T = none ∧ H T = none
  new : h0.get? a = none
  nt : H a = none
def CXF (P : Program) (w : World) : CXT := fun outer H s E e s' =>
  ∃ (a C : Addr) (H' : Hp), e = .ref a ∧ s'.os = s.os ∧ AllBare s'.gens ∧ Un (frs outer) [] H H' s.heap s'.heap ∧ HOk P w H' s'.heap ∧ FlyAt H' s.heap a C s'.heap ∧ E (.ref C) none H'
structure Own (X : Cx) : Prop where
  st : X.stack = X.env :: X.outer
  fr : X.env.frame = some X.env.locals
  ex : X.ex = []
section
variable {X : Cx} {pins : List (Addr × Obj)} {σ : St} {H : Hp} {s : Shared} {e C : Addr}
theorem Own.frs (o : Own X) : frs X.stack = X.env.locals :: X.fs := by
  rw [o.st]; unfold L2.frs; rw [List.filterMap_cons, o.fr]; rfl
theorem Inv.old_ne (I : Inv X pins σ H s) {b : Addr} {ob : Obj} (q : X.s₀.heap.get? b = some ob) : b ≠ X.env.locals :=
  Nat.ne_of_lt (Nat.lt_of_lt_of_le (Heap.lt_size q) I.ok.above)
theorem left_ok (I : Inv X pins σ H s) (o : Own X) {h0 : Heap} {ext : List Addr} {a0 : Value} {h2 : Heap} (hs0 : ∀ b ob, X.s₀.heap.get? b = some ob → ∃ o2, h0.get? b = some o2)
    (h0s : ∀ b ob, h0.get? b = some ob → ∃ o2, s.heap.get? b = some o2) (hx : ∀ b ∈ ext, h0.get? b = none ∧ H b = none) (he : e ∈ ext)
    (L : Heap.LeftW (PySem.W.hideAll s.heap (frs X.stack ++ ext)) (X.env :: X.outer) e (.ref C) a0 s.heap h2) :
    Un X.fs [] X.H₀ H X.s₀.heap h2 ∧ HOk X.prog X.w H h2 ∧ FlyAt H h0 e C h2 := by
  obtain ⟨k1, k2, ⟨oe, vs, T, oT, ts, t1, ⟨t2, t3⟩, t4, t5, t6, t7, t8, t9, t10⟩, k4⟩ := L
  have nox : ∀ b : Addr, b ∉ X.ex := fun b z => by rw [o.ex] at z; exact absurd z (by simp)
  have nx0 : ∀ b ob, X.s₀.heap.get? b = some ob → b ∉ ext := fun b ob q z => by
    obtain ⟨o2, e2⟩ := hs0 b ob q
    rw [(hx b z).1] at e2; cases e2
  have keepB : ∀ b ob, s.heap.get? b = some ob → b ∉ L2.frs X.stack → b ∉ ext → h2.get? b = some ob := fun b ob q n1 n2 =>
    k1 b ob (PySem.W.hideAll_get _ q fun z => (List.mem_append.mp z).elim n1 n2)
  have nf : ∀ b ob, X.s₀.heap.get? b = some ob → b ∉ X.fs → b ∉ L2.frs X.stack := fun b ob q n z => by
    rw [o.frs] at z
    rcases List.mem_cons.mp z with z | z
    · exact I.old_ne q z
    · exact n z
  have slotB : ∀ b ob, X.s₀.heap.get? b = some ob → b ∈ X.fs → ∃ sl, h2.get? b = some { ob with slots := sl } := fun b ob q hb => by
    obtain ⟨sl, e1⟩ := I.base.slot b ob q (I.ok.frf b hb) hb (nox b)
    obtain ⟨_, o2, ho2, hd2⟩ := I.ok.funs.mem hb
    rw [q] at ho2; cases ho2
    obtain ⟨sl2, e2⟩ := k4 b _ e1 hd2
    exact ⟨sl2, e2⟩
  have hok : HOk X.prog X.w H h2 := fun b ob q => by
    refine (I.hok b ob q).stay (fun c u hc r => ?_) (fun _ z => z) fun _ _ z => z
    have hc' : ∃ v, H c = some v := by
      rcases hc with rfl | hc
      · exact ⟨_, q⟩
      · exact ⟨_, hc⟩
    obtain ⟨v, hv⟩ := hc'
    refine keepB c u r (fun z => ?_) fun z => ?_
    · rw [I.stkFree c z] at hv; cases hv
    · rw [(hx c z).2] at hv; cases hv
  have hT : ∀ ob, s.heap.get? T = some ob → T ∈ ext := fun ob q => by
    by_cases z1 : T ∈ L2.frs X.stack
    · rw [o.st] at z1
      obtain ⟨_, o2, ho2, hd2⟩ := k2.mem z1
      rw [t8] at ho2; cases ho2
      exact absurd t9 (hd2 ts)
    · by_cases z2 : T ∈ ext
      · exact z2
      · rw [PySem.W.hideAll_get _ q fun z => (List.mem_append.mp z).elim z1 z2] at t6
        cases t6
  refine ⟨⟨fun b ob q n hb _ => ?_, fun b ob q n hb _ => slotB b ob q hb, fun b ob q n _ => I.base.free b ob q n (nox b), fun b ob q _ => ?_, I.base.tups, I.base.frzs, I.base.tbls⟩, hok, ⟨⟨oe, vs, T, oT, ts, a0, t1, t2, t4, t3, t5, t7, t8, t9, t10, ?_, ?_⟩, (hx e he).1, (hx e he).2⟩⟩
  · exact keepB b ob (I.base.keep b ob q n hb (nox b)) (nf b ob q hb) (nx0 b ob q)
  · by_cases hb : b ∈ X.fs
    · obtain ⟨sl, e2⟩ := slotB b ob q hb
      exact ⟨_, e2⟩
    · obtain ⟨o2, e2⟩ := I.base.there b ob q (nox b)
      exact ⟨o2, keepB b o2 e2 (nf b ob q hb) (nx0 b ob q)⟩
  · cases q : h0.get? T with
    | none => rfl
    | some ob =>
      obtain ⟨o2, e2⟩ := h0s T ob q
      rw [(hx T (hT o2 e2)).1] at q; cases q
  · cases q : H T with
    | none => rfl
    | some u =>
      obtain ⟨ob, e2⟩ := (I.hok T u q).there
      rw [(hx T (hT ob e2)).2] at q; cases q
theorem Own.up (o : Own X) (I : Inv X pins σ H s) : ∀ b ob, X.s₀.heap.get? b = some ob → ∃ o2, s.heap.get? b = some o2 := fun b ob q =>
  I.base.there b ob q fun z => by rw [o.ex] at z; exact absurd z (by simp)
theorem hid_frames (I : Inv X pins σ H s) (o : Own X) (ext : List Addr) : s.heap.FunFrames (PySem.W.hideAll s.heap (frs X.stack ++ ext)) (X.env :: X.outer) := by
  have z := I.stack
  have e := o.st
  rw [e] at z
  refine PySem.W.funFrames_hide z fun env he b hb => List.mem_append_left _ ?_
  rw [e]
  exact List.mem_filterMap.mpr ⟨env, he, hb⟩
theorem leave_new (I : Inv X pins σ H s) (o : Own X) {h1 : Heap} {vs : List Value} {M : Model} {E : Value → Shared → Prop} {Q : Unit → Shared → Prop} (hx : Heap.MadeExcOf s.heap h1 e (.ref C) vs)
    (hQ : ∀ h2, Un X.fs [] X.H₀ H X.s₀.heap h2 → HOk X.prog X.w H h2 → FlyAt H X.s₀.heap e C h2 → Q () { s with heap := h2 }) :
    wpAny M X.A (leaving X.env (.ref e)) Q E { s with heap := h1 } := by
  have I1 : Inv X pins σ H { s with heap := h1 } := I.kept (t' := s.toks) hx.keeps
  obtain ⟨t, he, _, _⟩ := hx.there
  have nox : ∀ b : Addr, b ∉ X.ex := fun b z => by rw [o.ex] at z; exact absurd z (by simp)
  have n0 : X.s₀.heap.get? e = none := by
    cases q : X.s₀.heap.get? e with
    | none => rfl
    | some ob =>
      obtain ⟨o2, e2⟩ := I.base.there e ob q (nox e)
      rw [hx.new] at e2; cases e2
  have nH : H e = none := by
    cases q : H e with
    | none => rfl
    | some u =>
      obtain ⟨ob, e2⟩ := (I.hok e u q).there
      rw [hx.new] at e2; cases e2
  have hext : ∀ b ∈ [e], X.s₀.heap.get? b = none ∧ H b = none := fun b hb => by
    have z : b = e := by simpa using hb
    subst z
    exact ⟨n0, nH⟩
  refine wpAny_leaving_firstW (base := PySem.W.hideAll h1 (frs X.stack ++ [e])) (a0 := .ref t) (outer := X.outer) (by rw [I.ok.frames, o.st]) (hid_frames I1 o [e]) o.fr he (fun b ob q => PySem.W.of_hideAll _ q)
    (PySem.W.hideAll_none _ (by simp)) rfl rfl rfl fun h2 hL => ?_
  obtain ⟨a1, a2, a3⟩ := left_ok I1 o (fun b ob q => ⟨ob, q⟩) (o.up I1) hext (by simp) hL
  exact hQ h2 a1 a2 a3
theorem leave_on (I : Inv X pins σ H s) (o : Own X) {h0 : Heap} {M : Model} {E : Value → Shared → Prop} {Q : Unit → Shared → Prop} (F : FlyAt H h0 e C s.heap) (hh : ∀ b ob, X.s₀.heap.get? b = some ob → ∃ o2, h0.get? b = some o2)
    (hQ : ∀ h2, Un X.fs [] X.H₀ H X.s₀.heap h2 → HOk X.prog X.w H h2 → FlyAt H X.s₀.heap e C h2 → Q () { s with heap := h2 }) :
    wpAny M X.A (leaving X.env (.ref e)) Q E s := by
  obtain ⟨oe, vs, T, oT, ts, a0, t1, t2, t4, t3, t5, t7, t8, t9, t10, t11, t12⟩ := F.ex
  have up : ∀ {b : Addr}, h0.get? b = none → X.s₀.heap.get? b = none := fun {b} z => by
    cases q : X.s₀.heap.get? b with
    | none => rfl
    | some ob =>
      obtain ⟨o2, e2⟩ := hh b ob q
      rw [z] at e2; cases e2
  have hext : ∀ b ∈ [e, T], X.s₀.heap.get? b = none ∧ H b = none := fun b hb => by
    rcases List.mem_cons.mp hb with rfl | hb
    · exact ⟨up F.new, F.nt⟩
    · have z : b = T := by simpa using hb
      subst z
      exact ⟨up t11, t12⟩
  refine wpAny_leaving_nextW (base := PySem.W.hideAll s.heap (frs X.stack ++ [e, T])) (cls := .ref C) (a0 := a0) (outer := X.outer) (by rw [I.ok.frames, o.st]) (hid_frames I o [e, T]) o.fr
    ⟨oe, vs, T, oT, ts, t1, ⟨t2, t3⟩, t4, t5, PySem.W.hideAll_none _ (by simp), t7, t8, t9, t10⟩ (fun b ob q => PySem.W.of_hideAll _ q) (PySem.W.hideAll_none _ (by simp)) fun h2 hL => ?_
  obtain ⟨a1, a2, a3⟩ := left_ok I o (fun b ob q => ⟨ob, q⟩) (o.up I) hext (by simp) hL
  exact hQ h2 a1 a2 a3
end
def Raises (X : Cx) (E : XK) : Prop := ∀ (pins : List (Addr × Obj)) (σ : St) (H : Hp) (s : Shared) (h1 : Heap) (e C : Addr) (vs : List Value), Inv X pins σ H s → Heap.MadeExcOf s.heap h1 e (.ref C) vs → E (.ref C) none H → X.xe (.ref e) { s with heap := h1 }
section
variable {P : Program} {w : World} {K : PySem.W.Frag} {mg : Str → Option Value} {base : Heap} {N : List Str} {qual : Str} {scope : Scope} {f : Addr} {cd : Value} {A : Around} {outer : List Env} {s : Shared} {H : Hp} {E : XK}
abbrev cxF (P : Program) (w : World) (K : PySem.W.Frag) (mg : Str → Option Value) (base : Heap) (N : List Str) (qual : Str) (scope : Scope) (f : Addr) (cd : Value) (A : Around) (outer : List Env) (s : Shared) (H : Hp) (E : XK) : Cx :=
  cxOf (CXF P w) P w K mg base N qual scope f cd A outer s H E
theorem own_cx : Own (cxF P w K mg base N qual scope f cd A outer s H E) := ⟨rfl, rfl, rfl⟩
theorem raises_cx : Raises (cxF P w K mg base N qual scope f cd A outer s H E) E := by
  intro pins σ H1 s1 h1 e C vs I hx hE
  exact leave_new I own_cx hx fun h2 u ok fl => ⟨e, C, H1, rfl, I.os, I.bare, u, ok, fl, hE⟩
theorem passes_cx : Passes (CXF P w) (cxF P w K mg base N qual scope f cd A outer s H E) E := by
  intro pins σ H1 s1 ev s2 I hx
  obtain ⟨a, C, H2, rfl, os, bare, un, ok, fl, hE⟩ := hx
  have I2 : Inv (cxF P w K mg base N qual scope f cd A outer s H E) pins σ H2 s2 := I.call' os un ok bare (fun b z => absurd z (by simp))
  exact leave_on I2 own_cx fl (fun b ob q => I.base.there b ob q (by show b ∉ ([] : List Addr); simp)) fun h2 u ok2 fl2 => ⟨a, C, H2, rfl, I2.os, I2.bare, u, ok2, fl2, hE⟩
theorem passesOwn_cx : PassesOwn (model P w) (cxF P w K mg base N qual scope f cd A outer s H E).A (cxF P w K mg base N qual scope f cd A outer s H E).env (cxF P w K mg base N qual scope f cd A outer s H E).xe :=
  PassesOwn.leaving (Q₁ := fun e s'' => CXF P w outer H s E e s'') (E₁ := fun e s'' => CXF P w outer H s E e s'')
end
theorem pass0F {X : Cx} : Passes (CXF X.prog X.w) X E0 := fun _ _ _ _ _ _ _ ⟨_, _, _, _, _, _, _, _, _, z⟩ => z.elim
theorem excIn_obj {K : PySem.W.Frag} {h : Heap} {C : Addr} {bmB : List Value} {newId : String} (X : K.In h) (q : PySem.W.excIn K C bmB newId = true) :
    ∃ bm N nm qn bs hdct sn sub ab col dd k0 k1 k2 k3 k5 mN, K.lookup C = some (excClassObj nm qn C N bs bm hdct sn sub ab col dd k0 k1 k2 k3 k5 newId) ∧ h.Ns N mN ∧ mN "__init__" = none ∧ OwnTail h bmB bm := by
  unfold PySem.W.excIn at q
  split at q
  · rename_i dd cd sl ho
    split at q
    · rename_i C2 bm k0 k1 k2 k3 n k5 hm hs
      rw [Bool.and_eq_true, Bool.and_eq_true, Bool.and_eq_true, Bool.and_eq_true, Bool.and_eq_true] at q
      obtain ⟨⟨⟨⟨⟨q1, q2⟩, q3⟩, q4⟩, q5⟩, q6⟩ := q
      have e1 := beq_iff_eq.mp q1
      have e2 := beq_iff_eq.mp q2
      have e3 : cd.hasDel = false := by simpa using q3
      have e6 := beq_iff_eq.mp q6
      subst e1 e2
      obtain ⟨nm, bs, mro, ns, qn, hd, sn, sub, ab, col, del⟩ := cd
      have hm2 : mro = .ref C2 :: bm := hm
      have e32 : del = false := e3
      subst hm2 e32
      have hsl : sl = #[k0, k1, k2, k3, some (.builtin n), k5] := by
        cases sl with
        | mk l => exact congrArg Array.mk hs
      subst hsl
      exact ⟨bm, ns, nm, qn, bs, hd, sn, sub, ab, col, dd, k0, k1, k2, k3, k5, _, ho, .of_isNs (PySem.W.isNs_of_in X q5), PySem.W.nsMap_none_of_in X q5 e6, PySem.W.tail_of_in X q4⟩
    · cases q
  · cases q
section
variable {X : Cx}
def tRaise (C : Addr) (E : XK) (t : TA) : TS := fun _ σ H => t σ H fun vs H1 => vs.length ≤ sizeLine ∧ E (.ref C) none H1
theorem ps_raise {x : Str} {C : Addr} {E : XK} {B newId initId : String} {bm : List Value} {e0 : Expr} {rest : List Expr} {t : TA} {np cpos pos : Pos} (hr : Raises X E) (hg : Gl X x) (hm : X.mg x = some (.ref C))
    (hq : PySem.W.excIn X.K C bm newId = true) (FB : ExcBaseFacts B newId initId bm) (hc : X.calm = true) (ha : PA X (e0 :: rest) t)
    (he : starEach (e0 :: rest) X.env = (false, eval e0 X.env) :: starEach rest X.env := by rfl) (hpl : (backTo cpos (starEach rest X.env)).any (·.1) = false := by rfl) (hd : (x == ("__debug__" : Str)) = false := by decide) :
    PS X (.Raise (some (.Call (.Name x np) (e0 :: rest) [] cpos)) none pos) (tRaise C E t) := by
  intro pins s σ H D I h
  obtain ⟨tl, N, nm, qn, bs, hdct, sn, sub, ab, col, dd, k0, k1, k2, k3, k5, mN, hCK, hN, hni, T⟩ := excIn_obj I.mod.kin hq
  have hC := I.mod.kin _ _ hCK
  refine wpAny_Raise_call_subT (C := C) (nm := nm) (q := qn) (N := N) (bs := bs) (bm := tl) (hdct := hdct) (sn := sn) (sub := sub) (ab := ab) (col := col) (dd := dd) (k0 := k0) (k1 := k1) (k2 := k2) (k3 := k3) (k5 := k5) (mN := mN)
    FB (T.hasType FB.hasBase) (I.ok.hd hc) ?_ hni (ld_glob I hg hm ⟨rfl, ?_⟩ hd)
  · rw [he]
    show (false || (backTo cpos (starEach rest X.env)).any (·.1)) = false
    rw [hpl]
    rfl
  · have ha2 := ha cpos pins s σ H _ I h
    rw [he] at ha2 ⊢
    refine Calls.evalArgs_plain (thn ha2 fun us s1 ⟨vs, H1, I1, r1, z, q1⟩ => ⟨rfl, by rw [← r1.length]; exact z, I1.bk _ _ hC, hN.keeps I1.bk, T.keeps I1.bk, fun h1 e hx => ?_⟩)
    exact hr pins σ H1 s1 h1 e C us I1 hx q1
end
end L2
set_option Elab.async false
set_option linter.all false
set_option maxRecDepth 100000
set_option maxHeartbeats 4000000
namespace L2
open PySem PySem.Spec PyProof.Rows
def excO (a C : Addr) : HO := .ext fun h => ∃ (oe : Obj) (vs : Array Value), h.get? a = some oe ∧ oe.cls = Value.ref C ∧ oe.data = .fields vs
section
variable {X : Cx} {pins : List (Addr × Obj)} {σ : St} {H : Hp} {s : Shared}
theorem Inv.track {a : Addr} {o : HO} (I : Inv X pins σ H s) (hn : H a = none) (h0 : X.s₀.heap.get? a = none) (hL : a ≠ X.env.locals) (hc : ∀ x c, X.env.cells.lookup x = some c → c ≠ a)
    (hp : ∀ p ∈ X.pn ++ pins, p.1 ≠ a) (ho : ObjOk X.prog X.w (upd H a o) s.heap a o) : Inv X pins σ (upd H a o) s := by
  have ne : ∀ b u, H b = some u → b ≠ a := fun b u q z => by rw [z, hn] at q; cases q
  refine ⟨I.ok, I.os, I.bare, ⟨I.base.keep, I.base.slot, fun b ob q n hx => ?_, I.base.there, fun b xs q => ?_, fun b ob u q => ?_, fun b ps q => ?_⟩, I.loc, I.cell, ?_, fun x c q => ?_, fun p hp' => ?_, fun b u q => ?_, I.len⟩
  · rw [upd_ne fun z => by rw [z, h0] at q; cases q]
    exact I.base.free b ob q n hx
  · have z := I.base.tups b xs q
    rw [upd_ne (ne b _ z)]; exact z
  · have z := I.base.frzs b ob u q
    rw [upd_ne (ne b _ z)]; exact z
  · obtain ⟨m, z⟩ := I.base.tbls b ps q
    exact ⟨m, by rw [upd_ne (ne b _ z)]; exact z⟩
  · rw [upd_ne (Ne.symm hL)]; exact I.free
  · rw [upd_ne (hc x c q)]; exact I.freeC x c q
  · obtain ⟨e1, e2, e3⟩ := I.pin p hp'
    exact ⟨e1, by rw [upd_ne (hp p hp')]; exact e2, e3⟩
  · by_cases hb : b = a
    · subst hb
      rw [upd_same] at q
      cases q
      exact ho
    · rw [upd_ne hb] at q
      exact (I.hok b u q).stay (fun c v _ r => r) (fun c r => by rw [upd_ne (ne c _ r)]; exact r) fun c xs r => by rw [upd_ne (ne c _ r)]; exact r
theorem left_inv {e C : Addr} (I : Inv X pins σ H s) (o : Own X) {ext : List Addr} {a0 : Value} {h2 : Heap} (hx : ∀ b ∈ ext, X.s₀.heap.get? b = none ∧ H b = none ∧ ∀ p ∈ X.pn ++ pins, p.1 ≠ b) (he : e ∈ ext)
    (L : Heap.LeftW (PySem.W.hideAll s.heap (frs X.stack ++ ext)) (X.env :: X.outer) e (.ref C) a0 s.heap h2) : Inv X pins σ H { s with heap := h2 } := by
  obtain ⟨u, hok, _⟩ := left_ok I o (fun b ob q => ⟨ob, q⟩) (o.up I) (fun b hb => ⟨(hx b hb).1, (hx b hb).2.1⟩) he L
  obtain ⟨k1, k2, _, k4⟩ := L
  have cellK : ∀ c v, s.heap.IsCell c v → h2.IsCell c v := fun c v ⟨ob, q, d⟩ => by
    obtain ⟨sl, e2⟩ := k4 c ob q fun vs z => by rw [d] at z; cases z
    exact ⟨_, e2, d⟩
  refine ⟨I.ok, I.os, I.bare, ?_, ?_, fun x c q => ?_, I.free, I.freeC, fun p hp => ?_, hok, I.len⟩
  · rw [o.ex]; exact u
  · obtain ⟨m, hn, hl⟩ := I.loc
    refine ⟨m, Heap.UpToSlots.ns k4 hn, fun i x v e1 e2 e3 => ?_⟩
    obtain ⟨uv, r, l⟩ := hl i x v e1 e2 e3
    refine ⟨uv, r, ?_⟩
    rcases l with l | ⟨k, c, q, z⟩
    · exact .inl l
    · exact .inr ⟨k, c, q, cellK c _ z⟩
  · obtain ⟨v, z⟩ := I.cell x c q
    exact ⟨v, cellK c v z⟩
  · obtain ⟨e1, e2, e3, e4, e5⟩ := I.pin p hp
    refine ⟨k1 _ _ (PySem.W.hideAll_get _ e1 fun z => ?_), e2, e3, e4, e5⟩
    rcases List.mem_append.mp z with z | z
    · rw [o.frs] at z
      rcases List.mem_cons.mp z with z | z
      · exact e3 z
      · exact e4 z
    · exact (hx p.1 z).2.2 p hp rfl
theorem excMatches_own {M : Model} {A : Around} {E : Value → Shared → Prop} {h : Heap} {g : Array GenState} {d : Drawn} {t : Nat} {os : OsState} {e C L : Addr} {oe : Obj} {Q : Bool → Shared → Prop}
    {nm q : Str} {N : Addr} {bs bm : List Value} {hdct : Bool} {sn : List Str} {sub : List Value} {ab : Bool} {col : Option Bool} {dd : Option Addr} {k0 k1 k2 k3 k5 : Option Value} {newId : String}
    {nm' q' : Str} {N' : Addr} {bs' bm' : List Value} {hdct' : Bool} {sn' : List Str} {sub' : List Value} {ab' : Bool} {col' : Option Bool} {dd' : Option Addr} {l0 l1 l2 l3 l5 : Option Value} {newId' : String}
    (hC : h.get? C = some (excClassObj nm q C N bs bm hdct sn sub ab col dd k0 k1 k2 k3 k5 newId)) (hL : h.get? L = some (excClassObj nm' q' L N' bs' bm' hdct' sn' sub' ab' col' dd' l0 l1 l2 l3 l5 newId'))
    (he : h.get? e = some oe) (hcls : oe.cls = .ref C) (hbase : bm'.contains (.type "BaseException") = true) (hsub : (Value.ref C :: bm).contains (.ref L) = true)
    (hq : Q true ⟨h, g, d, t, os⟩) : wpAny M A (excMatches (.ref e) (.ref L)) Q E ⟨h, g, d, t, os⟩ := by
  have hcB : (Value.ref L :: bm').contains (.type "BaseException") = true := by rw [List.contains_cons, hbase, Bool.or_true]
  have f := tc_notTuple
  unfold excMatches
  repeat (first | (with_reducible refine wpAny_loadPart_at he ?_; rw [hcls]) | with_reducible refine wpAny_loadPart_at hL ?_ | with_reducible refine wpAny_loadPart_at hC ?_ | (with_reducible refine wpAny_isSubtype_exc hL ?_; rw [hcB]) | (with_reducible refine wpAny_isSubtype_exc hC ?_; rw [hsub]) | wp_step)
  exact hq
abbrev Cx.tr (X : Cx) (xe : Value → Shared → Prop) (pn : List (Addr × Obj)) : Cx := { X with xe := xe, pn := pn }
abbrev Cx.hs (X : Cx) (v : Value) : Cx := { X with A := X.A.mark (some v), calm := false, xe := fun _ _ => False }
theorem Cx.Ok.tr {xe : Value → Shared → Prop} {pn : List (Addr × Obj)} (ok : X.Ok) : (X.tr xe pn).Ok :=
  ⟨ok.mod, ok.kind, ok.glob, ok.blt, ok.above, ok.inj, ok.has, ok.cab, ok.hd, ok.frames, ok.stk, ok.exf, ok.bs, ok.bsz, ok.noex, ok.exfs, ok.funs, ok.frf⟩
theorem Cx.Ok.untr {xe : Value → Shared → Prop} {pn : List (Addr × Obj)} (ok : (X.tr xe pn).Ok) : X.Ok :=
  ⟨ok.mod, ok.kind, ok.glob, ok.blt, ok.above, ok.inj, ok.has, ok.cab, ok.hd, ok.frames, ok.stk, ok.exf, ok.bs, ok.bsz, ok.noex, ok.exfs, ok.funs, ok.frf⟩
theorem Cx.Ok.hs {v : Value} (ok : X.Ok) : (X.hs v).Ok :=
  ⟨ok.mod, ok.kind, ok.glob, ok.blt, ok.above, ok.inj, ok.has, ok.cab, fun z => Bool.noConfusion z, ok.frames, ok.stk, ok.exf, ok.bs, ok.bsz, ok.noex, ok.exfs, ok.funs, ok.frf⟩
theorem Inv.tr {xe : Value → Shared → Prop} (I : Inv X pins σ H s) : Inv (X.tr xe (X.pn ++ pins)) [] σ H s :=
  ⟨I.ok.tr, I.os, I.bare, I.base, I.loc, I.cell, I.free, I.freeC, fun p hp => I.pin p (by simpa using hp), I.hok, I.len⟩
theorem Inv.untr {xe : Value → Shared → Prop} {pins' : List (Addr × Obj)} (I : Inv (X.tr xe (X.pn ++ pins)) pins' σ H s) : Inv X pins σ H s :=
  ⟨I.ok.untr, I.os, I.bare, I.base, I.loc, I.cell, I.free, I.freeC, fun p hp => I.pin p (List.mem_append_left _ hp), I.hok, I.len⟩
theorem SP.untr {xe : Value → Shared → Prop} {pins' : List (Addr × Obj)} {D : Ends} {f : Flow} {s' : Shared} (h : SP (X.tr xe (X.pn ++ pins)) pins' D f s') : SP X pins D f s' := by
  cases f with
  | next => obtain ⟨σ', H', I, q⟩ := h; exact ⟨σ', H', I.untr, q⟩
  | brk => obtain ⟨σ', H', I, q⟩ := h; exact ⟨σ', H', I.untr, q⟩
  | cont => obtain ⟨σ', H', I, q⟩ := h; exact ⟨σ', H', I.untr, q⟩
  | ret u => obtain ⟨v, σ', H', I, r, q⟩ := h; exact ⟨v, σ', H', I.untr, r, q⟩
theorem Inv.hs {v : Value} (I : Inv X pins σ H s) : Inv (X.hs v) pins σ H s :=
  ⟨I.ok.hs, I.os, I.bare, I.base, I.loc, I.cell, I.free, I.freeC, I.pin, I.hok, I.len⟩
theorem Inv.unhs {v : Value} (hd : X.calm = true → X.A.handled = none) (I : Inv (X.hs v) pins σ H s) : Inv X pins σ H s :=
  ⟨⟨I.ok.mod, I.ok.kind, I.ok.glob, I.ok.blt, I.ok.above, I.ok.inj, I.ok.has, I.ok.cab, hd, I.ok.frames, I.ok.stk, I.ok.exf, I.ok.bs, I.ok.bsz, I.ok.noex, I.ok.exfs, I.ok.funs, I.ok.frf⟩,
    I.os, I.bare, I.base, I.loc, I.cell, I.free, I.freeC, I.pin, I.hok, I.len⟩
theorem name_goes {i : Nat} {n : Str} {pos : Pos} {M : Model} {A : Around} {E : Value → Shared → Prop} {Q : Unit → Shared → Prop} (I : Inv X pins σ H s) (hN : X.N.Nodup) (hi : X.N[i]? = some n) (hl : X.env.scope.names.lookup n = some .local)
    (h : ∀ s', Inv X pins (σ.set i none) H s' → Q () s') : wpAny M A (do bindName X.env n .none; unbindBehindTheSuite X.env n pos) Q E s := by
  obtain ⟨m, hn, hlk⟩ := id I.loc
  have hcls : (X.env.scope.kind == .class || (X.env.scope.kind == .module && X.env.locals != X.env.globals)) = false := by rw [I.ok.kind]; rfl
  have hiσ : i < σ.length := by rw [I.len]; exact (List.getElem?_eq_some_iff.mp hi).1
  refine wpAny_nameGoes_keeps hl hn hcls fun h1 v hn1 hs => h _ ?_
  have oldne : ∀ b ob, X.s₀.heap.get? b = some ob → b ≠ X.env.locals := fun b ob q => I.old_ne q
  refine ⟨I.ok, I.os, I.bare, ⟨fun b ob q n hb hx => (hs.2 b (oldne b ob q)).trans (I.base.keep b ob q n hb hx), fun b ob q n hb hx => ?_, I.base.free, fun b ob q hx => ?_, I.base.tups, I.base.frzs, I.base.tbls⟩,
    ⟨_, hn1, fun j y w e1 e2 e3 => ?_⟩, fun y c q => ?_, I.free, I.freeC, fun p hp => ?_, fun b u q => ?_, by simpa using I.len⟩
  · obtain ⟨sl, e1⟩ := I.base.slot b ob q n hb hx
    exact ⟨sl, (hs.2 b (oldne b ob q)).trans e1⟩
  · obtain ⟨o2, e1⟩ := I.base.there b ob q hx
    exact ⟨o2, (hs.2 b (oldne b ob q)).trans e1⟩
  · by_cases hj : j = i
    · subst hj
      rw [List.getElem?_set_self hiσ] at e2
      cases e2
    · rw [List.getElem?_set_ne (Ne.symm hj)] at e2
      obtain ⟨u, r, l⟩ := hlk j y w e1 e2 e3
      refine ⟨u, r, ?_⟩
      rcases l with ⟨k, q⟩ | ⟨k, c, q, z⟩
      · refine .inl ⟨k, ?_⟩
        have : y ≠ n := fun z => hj (nodup_ix hN e1 (z ▸ hi))
        show (if y = n then v else m y) = some u
        rw [if_neg this]
        exact q
      · exact .inr ⟨k, c, q, z.sameBut hs (I.cne y c q)⟩
  · obtain ⟨w', z⟩ := I.cell y c q
    exact ⟨w', z.sameBut hs (I.cne y c q)⟩
  · obtain ⟨e, e2, e3, e4, e5⟩ := I.pin p hp
    exact ⟨(hs.2 p.1 e3).trans e, e2, e3, e4, e5⟩
  · refine (I.hok b u q).stay (fun c w' hc r => (hs.2 c ?_).trans r) (fun _ z => z) fun _ _ z => z
    intro z
    subst z
    rcases hc with rfl | hc
    · rw [I.free] at q; cases q
    · rw [I.free] at hc; cases hc
def tTry (L : Addr) (K : PySem.W.Frag) (i n : Nat) (tb : XK → TS) (th : TS) : TS := fun D σ H => ∃ E : XK, tb E D σ H ∧ ∀ C H1, E (.ref C) none H1 →
  (∃ bm newId, PySem.W.excIn K C bm newId = true) ∧ PySem.W.mroIn K C (.ref L) = some true ∧
  ∀ a H2, Same H1 H2 → H2 a = some (excO a C) →
    th { nx := fun σ' H' => D.nx (σ'.set i none) H', rt := D.rt, bk := fun σ' H' => D.bk (σ'.set i none) H', ct := fun σ' H' => D.ct (σ'.set i none) H' } ((List.replicate n none).set i (some (.ref a))) H2
theorem ps_try {x n : Str} {i : Nat} {L : Addr} {body suite : List Stmt} {b0 : Stmt} {tb : XK → TS} {th : TS} {np hpos pos : Pos} {bmL : List Value} {newL : String} (o : Own X) (hc : X.calm = true) (hg : Gl X x) (hm : X.mg x = some (.ref L))
    (hq : PySem.W.excIn X.K L bmL newL = true) (hbL : bmL.contains (.type "BaseException") = true) (hN : X.N.Nodup) (hi : X.N[i]? = some n) (hl : X.env.scope.names.lookup n = some .local)
    (hb : ∀ (xe : Value → Shared → Prop) (pn : List (Addr × Obj)) (E : XK), Passes (CXF X.prog X.w) (X.tr xe pn) E → PSs (X.tr xe pn) body (tb E))
    (hs : ∀ v : Value, PSs (X.hs v) (b0 :: suite) th) (hd : (x == ("__debug__" : Str)) = false := by decide) :
    PS X (.Try body [.ExceptHandler (some (.Name x np)) (some n) (b0 :: suite) hpos] [] [] pos) (tTry L X.K i X.N.length tb th) := by
  intro pins s σ H D I h
  obtain ⟨E, hbody, hcatch⟩ := h
  refine wpAny_Try_except (wpAny_mono (hb (fun e s₁ => wpAny (model X.prog X.w) X.A (noteFrame e X.env) (fun _ s₂ => wpAny (model X.prog X.w) X.A (setFlight e none) (fun _ s₃ =>
      wpAny (model X.prog X.w) X.A (handleBy e X.env [.ExceptHandler (some (.Name x np)) (some n) (b0 :: suite) hpos]) (SP X pins D) X.xe s₃) X.xe s₂) X.xe s₁) (X.pn ++ pins) E ?_ [] s σ H D I.tr hbody)
    (fun f s1 q => ?_) fun e s1 q => q)
  · intro pins' σ1 H1 s1 ev s2 I1 hx
    obtain ⟨a, C, H2, rfl, os, bare, un, ok, fl, hE⟩ := hx
    obtain ⟨⟨bmC, newC, hqC⟩, hsub, hth⟩ := hcatch C H2 hE
    have I2 : Inv X pins σ1 H2 s2 := (I1.call' os un ok bare (fun b z => absurd z (by simp))).untr
    -- what was there at the call
    have new_ne : ∀ {b : Addr}, s1.heap.get? b = none → b ≠ X.env.locals ∧ (∀ y c, X.env.cells.lookup y = some c → c ≠ b) ∧ (∀ p ∈ X.pn ++ pins, p.1 ≠ b) ∧ X.s₀.heap.get? b = none := fun {b} z => by
      have I0 : Inv X pins σ1 H1 s1 := I1.untr
      refine ⟨fun q => ?_, fun y c hy q => ?_, fun p hp q => ?_, ?_⟩
      · obtain ⟨m, ⟨ob, _, _, hob, _⟩, _⟩ := I0.loc
        rw [← q, z] at hob; cases hob
      · obtain ⟨v, ob, hob, _⟩ := I0.cell y c hy
        rw [q, z] at hob; cases hob
      · have e1 := (I0.pin p hp).1
        rw [q, z] at e1; cases e1
      · cases q : X.s₀.heap.get? b with
        | none => rfl
        | some ob =>
          obtain ⟨o2, e2⟩ := o.up I0 b ob q
          rw [z] at e2; cases e2
    have I0 : Inv X pins σ1 H1 s1 := I1.untr
    have h01 : ∀ b ob, s1.heap.get? b = some ob → ∃ o2, s2.heap.get? b = some o2 := fun b ob q => un.there b ob q (by simp)
    obtain ⟨oe, vs, T, oT, ts, a0, t1, t2, t4, t3, t5, t7, t8, t9, t10, t11, t12⟩ := fl.ex
    have hext : ∀ b ∈ [a, T], s1.heap.get? b = none ∧ H2 b = none := fun b hb' => by
      rcases List.mem_cons.mp hb' with rfl | hb'
      · exact ⟨fl.new, fl.nt⟩
      · have z : b = T := by simpa using hb'
        subst z
        exact ⟨t11, t12⟩
    have hfr : X.A.frames = some (X.env :: X.outer) := by rw [I.ok.frames, o.st]
    refine wpAny_noteFrame_onW (base := PySem.W.hideAll s2.heap (frs X.stack ++ [a, T])) (cls := .ref C) (a0 := a0) (outer := X.outer) hfr (hid_frames I2 o [a, T]) o.fr
      ⟨oe, vs, T, oT, ts, t1, ⟨t2, t3⟩, t4, t5, PySem.W.hideAll_none _ (by simp), t7, t8, t9, t10⟩ (fun b ob q => PySem.W.of_hideAll _ q) (PySem.W.hideAll_none _ (by simp)) fun h3 hN3 => ?_
    obtain ⟨n1, n2, n3, n4⟩ := hN3
    refine wpAny_setFlight_noneW (s := { s2 with heap := h3 }) n1 n2 n3 fun h4 m1 m2 m3 m4 => ?_
    have LW : Heap.LeftW (PySem.W.hideAll s2.heap (frs X.stack ++ [a, T])) (X.env :: X.outer) a (.ref C) a0 s2.heap h4 := ⟨m1, m2, m3, fun b ob q hnf => by
      obtain ⟨sl, e1⟩ := n4 b ob q hnf
      exact ⟨sl, m4 b _ e1 hnf⟩⟩
    obtain ⟨_, _, fl4⟩ := left_ok I2 o (o.up I0) h01 hext (by simp) LW
    have I4 : Inv X pins σ1 H2 { s2 with heap := h4 } := left_inv I2 o (fun b hb' => ⟨(new_ne (hext b hb').1).2.2.2, (hext b hb').2, (new_ne (hext b hb').1).2.2.1⟩) (by simp) LW
    have h04 : ∀ b ob, s1.heap.get? b = some ob → ∃ o2, h4.get? b = some o2 := fun b ob q => by
      obtain ⟨o2, e2⟩ := h01 b ob q
      by_cases hbf : b ∈ frs X.stack
      · obtain ⟨_, o3, ho3, hd3⟩ := I2.stack.mem hbf
        obtain ⟨sl, e4⟩ := LW.2.2.2 b o3 ho3 hd3
        exact ⟨_, e4⟩
      · refine ⟨o2, m1 b o2 (PySem.W.hideAll_get _ e2 fun z => (List.mem_append.mp z).elim hbf fun z => ?_)⟩
        rw [(hext b z).1] at q; cases q
    -- the class test
    have hkin : X.K.In h4 := I4.kIn
    obtain ⟨bC, NC, nmC, qnC, bsC, hdC, snC, subC, abC, colC, ddC, c0, c1, c2, c3, c5, mNC, hCK, _, _, _⟩ := excIn_obj hkin hqC
    obtain ⟨bL, NL, nmL, qnL, bsL, hdL, snL, subL, abL, colL, ddL, l0, l1, l2, l3, l5, mNL, hLK, _, _, TL⟩ := excIn_obj hkin hq
    have hmro : (Value.ref C :: bC).contains (.ref L) = true := by
      unfold PySem.W.mroIn PySem.W.clsIn at hsub
      rw [hCK] at hsub
      simpa [excClassObj] using hsub
    refine wpAny_handleBy_cons (codeAny_handlers_test ?_) (by intro q; cases q)
    have hglob : ∀ {E' : Value → Shared → Prop} {Q' : Value → Shared → Prop}, Q' (.ref L) { s2 with heap := h4 } → wpAny (model X.prog X.w) (X.A.mark (some (.ref a))) (eval (.Name x np) X.env) Q' E' { s2 with heap := h4 } := fun {E' Q'} q =>
      Calls.Name_function_global I.ok.kind hg (Calls.loadGlobal_global (by rw [I.ok.glob]; exact I4.mod.glob.keeps I4.bk) hm q) hd
    refine hglob ?_
    obtain ⟨oe4, vs4, T4, oT4, ts4, a04, u1, u2, u4, u3, u5, u7, u8, u9, u10, u11, u12⟩ := fl4.ex
    obtain ⟨hp2, g2, d2, tk2, os2⟩ := s2
    refine excMatches_own (hkin _ _ hCK) (hkin _ _ hLK) u1 u2 (TL.hasType hbL) hmro ?_
    show codeAny _ _ (.handlers _ _ _) _ _
    refine codeAny_handlers_suite_as ?_
    -- once more
    have hext4 : ∀ b ∈ [a, T4], s1.heap.get? b = none ∧ H2 b = none := fun b hb' => by
      rcases List.mem_cons.mp hb' with rfl | hb'
      · exact ⟨fl4.new, fl4.nt⟩
      · have z : b = T4 := by simpa using hb'
        subst z
        exact ⟨u11, u12⟩
    have kb4 : (PySem.W.hideAll h4 (frs X.stack ++ [a, T4])).StaysIn h4 := fun b ob q => PySem.W.of_hideAll _ q
    have fr4 := hid_frames I4 o [a, T4]
    refine wpAny_setFlight_noneW (s := ⟨h4, g2, d2, tk2, os2⟩) (base := PySem.W.hideAll h4 (frs X.stack ++ [a, T4])) (l := X.env :: X.outer) (cls := .ref C) (a0 := a04) (fl := .none) kb4 fr4
      ⟨oe4, vs4, T4, oT4, ts4, u1, ⟨u2, u3⟩, u4, u5, PySem.W.hideAll_none _ (by simp), u7, u8, u9, u10⟩ fun h5 r1 r2 r3 r4 => ?_
    have LW5 : Heap.LeftW (PySem.W.hideAll h4 (frs X.stack ++ [a, T4])) (X.env :: X.outer) a (.ref C) a04 h4 h5 := ⟨r1, r2, r3, fun b ob q hnf => ⟨ob.slots, r4 b ob q hnf⟩⟩
    obtain ⟨_, _, fl5⟩ := left_ok I4 o (o.up I0) h04 hext4 (by simp) LW5
    have I5 : Inv X pins σ1 H2 ⟨h5, g2, d2, tk2, os2⟩ := left_inv I4 o (fun b hb' => ⟨(new_ne (hext4 b hb').1).2.2.2, (hext4 b hb').2, (new_ne (hext4 b hb').1).2.2.1⟩) (by simp) LW5
    obtain ⟨oe5, vs5, T5, oT5, ts5, a05, v1, v2, v4, _⟩ := fl5.ex
    obtain ⟨ne1, ne2, ne3, ne4⟩ := new_ne fl5.new
    have I6 : Inv X pins σ1 (upd H2 a (excO a C)) ⟨h5, g2, d2, tk2, os2⟩ := I5.track fl5.nt ne4 ne1 ne2 ne3
      ⟨⟨oe5, vs5, v1, v2, v4⟩, ⟨oe5, v1⟩, fun k1 k2 ⟨ox, vx, y1, y2, y3⟩ kk => ⟨ox, vx, kk _ y1, y2, y3⟩⟩
    have I7 : Inv X pins (List.replicate X.N.length none) (upd H2 a (excO a C)) ⟨h5, g2, d2, tk2, os2⟩ := I6.weak (by rw [List.length_replicate, I6.len]) fun j v q => by
      rw [List.getElem?_replicate] at q
      split at q
      · cases q
      · cases q
    have S0 : Same H2 (upd H2 a (excO a C)) := fun b u q => by rw [upd_ne fun z => by rw [z, fl5.nt] at q; cases q]; exact q
    have hsu := hs (.ref a)
    refine store_ok (X := X.hs (.ref a)) (v := .ref a) I7.hs hN hi (.inl hl) rfl (fun s8 I8 => ?_) (.inr hl)
    refine wpAny_mono (hsu pins s8 _ _ _ I8 (hth a (upd H2 a (excO a C)) S0 upd_same)) (fun f s9 q9 => ?_) fun _ _ z => False.elim z
    have hdX : X.calm = true → X.A.handled = none := I.ok.hd
    cases f with
    | next =>
      obtain ⟨σ9, H9, I9, q⟩ := q9
      exact name_goes (I9.unhs hdX) hN hi hl fun s10 I10 => ⟨_, H9, I10, q⟩
    | brk =>
      obtain ⟨σ9, H9, I9, q⟩ := q9
      exact name_goes (I9.unhs hdX) hN hi hl fun s10 I10 => ⟨_, H9, I10, q⟩
    | cont =>
      obtain ⟨σ9, H9, I9, q⟩ := q9
      exact name_goes (I9.unhs hdX) hN hi hl fun s10 I10 => ⟨_, H9, I10, q⟩
    | ret u =>
      obtain ⟨v9, σ9, H9, I9, r9, q⟩ := q9
      exact name_goes (I9.unhs hdX) hN hi hl fun s10 I10 => ⟨v9, _, H9, I10, r9, q⟩
  · cases f with
    | next => exact wpAny_execs_nil q.untr
    | brk => exact q.untr
    | cont => exact q.untr
    | ret u => exact q.untr
end
end L2
set_option Elab.async false
set_option linter.all false
set_option maxRecDepth 100000
set_option maxHeartbeats 4000000
namespace L2
open PySem PySem.Spec PyProof.Rows
section
variable {prog : Program} {w : World} {A : Around} {R : Result → Shared → Prop} {s : Shared}
theorem compLoop_any {elt tg iter : Expr} {ifs : List Expr} {scope : Scope} {pos : Pos} {it acc : Value} {env : Env} (I : Nat → Shared → Prop)
    (turn : ∀ n s, I n s → wpAny (model prog w) A (pyNext it) (fun r s₁ => match r with
      | none => R (.ok .next) s₁
      | some v => wpAny (model prog w) A (letOwnedTupleGo tg it v) (fun _ t₁ => wpAny (model prog w) A (assign tg env v) (fun _ s₂ =>
          wpAny (model prog w) A (forIn ifs true fun c r => if r = true then do let ok ← isTrue c env (eval c env); pure (ForInStep.yield ok) else pure (ForInStep.yield r)) (fun ok s₃ =>
            if ok = true then wpAny (model prog w) A (eval elt env) (fun x s₄ => wpAny (model prog w) A (call (.builtin "list.append") [acc, x]) (fun _ s₅ => ∃ m, m < n ∧ I m s₅) (fun _ _ => False) s₄) (fun _ _ => False) s₃
            else ∃ m, m < n ∧ I m s₃) (fun _ _ => False) s₂) (fun _ _ => False) t₁) (fun _ _ => False) s₁) (fun _ _ => False) s)
    (n : Nat) (h : I n s) : codeAny (model prog w) A (.compLoop (.ListComp elt [⟨tg, iter, ifs, 0⟩] scope pos) 0 it acc env) R s := by
  refine codeAny_loop rfl I (fun n s hI => ?_) n h
  show wpAny _ A ((compTurn (.ListComp elt [⟨tg, iter, ifs, 0⟩] scope pos) 0 it acc env).onRaise (fun x => do noteFrame x env; theTreesLotGoes x)) _ _ s
  refine wpAny_noted ?_
  rw [compTurn_list]
  have no : ∀ (E : Value → Shared → Prop) (e : Value) (s : Shared), False → E e s := fun _ _ _ z => z.elim
  refine wpAny_bind (wpAny_standAt (wpAny_bind (wpAny_mono (turn n s hI) (fun r s₁ h₁ => ?_) (no _))))
  cases r with
  | none => exact wpAny_pure h₁
  | some v =>
    refine wpAny_bind (wpAny_mono h₁ (fun _ t₁ h₂ => ?_) (no _))
    refine wpAny_bind (wpAny_mono h₂ (fun _ s₂ h₃ => wpAny_bind (wpAny_mono h₃ (fun ok s₃ h₄ => ?_) (no _))) (no _))
    cases ok with
    | false => exact wpAny_pure ⟨rfl, h₄⟩
    | true => exact wpAny_bind (wpAny_bind (wpAny_mono h₄ (fun x s₄ h₅ => wpAny_bind (wpAny_mono h₅ (fun _ s₅ h₆ => wpAny_pure (wpAny_pure ⟨rfl, h₆⟩)) (no _))) (no _)))
end
def cxC (X : Cx) (N : List Str) (scope : Scope) (cl : List (Str × Addr)) (C : Addr) (s : Shared) (H : Hp) (fp : List Addr) : Cx :=
  { X with N := N, s₀ := s, H₀ := H, env := compEnvC scope cl C X.env, outer := X.stack, stack := X.stack, ex := fp, fn := fun _ => false, pn := [], xe := fun _ _ => False }
structure CompNames (X : Cx) (N : List Str) (js : List (Option Nat)) (scope : Scope) (cl : List (Str × Addr)) : Prop where
  kind : scope.kind = .function
  clos : closureFor scope X.env = pure cl
  nocell : ∀ y ∈ scope.names, y.2 ≠ .cell
  names : ∀ y ∈ scope.names, y.2 = .local → scope.names.lookup y.1 = some .local
  sub : ∀ x c, cl.lookup x = some c → X.env.cells.lookup x = some c
  has : ∀ x, ((compEnvC scope cl 0 X.env).kindOf x = some .cell ∨ (compEnvC scope cl 0 X.env).kindOf x = some .free) → ∃ c, cl.lookup x = some c
  len : js.length = N.length
  free : ∀ (i j : Nat) (x : Str), js[i]? = some (some j) → N[i]? = some x → X.N[j]? = some x ∧ ((compEnvC scope cl 0 X.env).kindOf x = some .cell ∨ (compEnvC scope cl 0 X.env).kindOf x = some .free) ∧
    (X.env.kindOf x = some .cell ∨ X.env.kindOf x = some .free)
def pickσ (js : List (Option Nat)) (σ : St) : St := js.map fun o => o.bind fun j => (σ[j]?).join
section
variable {X : Cx} {pins : List (Addr × Obj)} {σ : St} {H : Hp} {s : Shared} {N : List Str} {js : List (Option Nat)} {scope : Scope} {cl : List (Str × Addr)}
theorem comp_start {fp : List Addr} {h4 : Heap} {t' : Nat} (I : Inv X pins σ H s) (cn : CompNames X N js scope cl) (hfp : ∀ b ∈ fp, FpOk X pins H b) (hin : ∀ b ∈ fp, ∃ o, s.heap.get? b = some o)
    (ns : h4.Ns s.heap.objs.size fun _ => none) (sb : Heap.SameBut s.heap.objs.size (s.heap.push { cls := .type "dict", data := .dict #[] }) h4) :
    Inv (cxC X N scope cl s.heap.objs.size s H fp) [] (pickσ js σ) H { s with heap := h4, toks := t' } := by
  have keep : ∀ b o, s.heap.get? b = some o → h4.get? b = some o := fun b o e => (sb.2 b (Nat.ne_of_lt (Heap.lt_size e))).trans (Heap.get?_push_of_some _ e)
  have ltC : ∀ b ∈ fp, b < s.heap.objs.size := fun b hb => by obtain ⟨o, e⟩ := hin b hb; exact Heap.lt_size e
  refine ⟨⟨I.ok.mod, cn.kind, I.ok.glob, I.ok.blt, Nat.le_refl _, fun x y c e1 e2 => I.ok.inj x y c (cn.sub x c e1) (cn.sub y c e2), fun x hx => cn.has x hx, fun x c z => Bool.noConfusion z, I.ok.hd, I.ok.frames, .inl rfl, fun b hb => ⟨Nat.ne_of_lt (ltC b hb), fun x c e => (hfp b hb).2.2.2.2.1 x c (cn.sub x c e)⟩,
      I.bs, Nat.le_trans I.ok.bsz I.sz, fun b o e hb => ?_, fun b hb hf => ?_, I.stack, I.stkFree⟩,
    rfl, I.bare, Un.kept keep, ⟨_, ns, fun i x v e1 e2 e3 => ?_⟩, fun x c e => ?_, I.hok.fresh (Nat.le_refl _), fun x c e => I.freeC x c (cn.sub x c e), fun p hp => absurd (show p ∈ ([] : List (Addr × Obj)) from hp) (by simp), I.hok.kept keep, ?_⟩
  · rcases (hfp b hb).2.2.2.1 with z | z
    · exact I.ok.noex b o e z
    · exact absurd (Nat.lt_of_lt_of_le (Heap.lt_size e) (Nat.le_trans I.ok.bsz z)) (Nat.lt_irrefl _)
  · rcases List.mem_cons.mp (I.stkSub b hf) with z | z
    · exact (hfp b hb).2.1 z
    · exact (hfp b hb).2.2.1 z
  · have hp : ∃ j, js[i]? = some (some j) ∧ σ[j]? = some (some v) := by
      unfold pickσ at e2
      rw [List.getElem?_map] at e2
      cases q : js[i]? with
      | none => rw [q] at e2; cases e2
      | some oj =>
        rw [q] at e2
        cases oj with
        | none => cases e2
        | some j =>
          refine ⟨j, rfl, ?_⟩
          have e2' : (σ[j]?).join = some v := Option.some.inj e2
          cases z : σ[j]? with
          | none => rw [z] at e2'; cases e2'
          | some y => rw [z] at e2'; exact congrArg some e2'
    obtain ⟨j, q1, q2⟩ := hp
    obtain ⟨f1, f2, f3⟩ := cn.free i j x q1 e1
    obtain ⟨m, hn, hl⟩ := I.loc
    have vis : Vis X.env.scope x := by
      rcases f3 with z | z
      · exact .inr (.inl z)
      · exact .inr (.inr z)
    obtain ⟨u, r, l⟩ := hl j x v f1 q2 vis
    refine ⟨u, r, .inr ⟨f2, ?_⟩⟩
    rcases l with ⟨k, _⟩ | ⟨k, c, e, z⟩
    · rcases f3 with z | z
      · rw [k] at z; cases z
      · rw [k] at z; cases z
    · obtain ⟨c', e'⟩ := cn.has x f2
      have e'' := cn.sub x c' e'
      rw [e] at e''
      cases e''
      exact ⟨c, e', z.keeps keep⟩
  · obtain ⟨v, z⟩ := I.cell x c (cn.sub x c e)
    exact ⟨v, z.keeps keep⟩
  · unfold pickσ
    rw [List.length_map]
    exact cn.len
theorem comp_end {fp : List Addr} {σ2 : St} {H2 : Hp} {s2 : Shared} {pins2 : List (Addr × Obj)} {C : Addr} (I : Inv X pins σ H s) (hfp : ∀ b ∈ fp, FpOk X pins H b) (J : Inv (cxC X N scope cl C s H fp) pins2 σ2 H2 s2) : Inv X pins σ H2 s2 :=
  I.call' (ch := fp) J.os J.base J.hok J.bare fun b hb => ⟨(hfp b hb).2.2.2.1, (hfp b hb).2.1, (hfp b hb).2.2.2.2.1, (hfp b hb).2.2.2.2.2⟩
def tLC (js : List (Option Nat)) (wi : TI) (g : TG) (tt : TT) (te : TE) : TE := fun σ H Q => wi σ H fun J H1 => ∀ D, H1 D = none → ∃ W : Nat → Nat → St → Hp → Prop, (∃ m, W 0 m (pickσ js σ) (upd H1 D (.lst []))) ∧
  ∀ i m σ2 H2, W i m σ2 H2 → (J.stop i H2 ∧ Q (.ref D) H2) ∨ (J.go i H2 ∧ ∀ x H3, J.yld i H2 x H3 → g x σ2 H3 fun σ4 H4 => tt σ4 H4 fun b H5 =>
    if b = true then te σ4 H5 fun y H6 => ∃ xs, H6 D = some (.lst xs) ∧ xs.length < sizeLine ∧ ∃ m', m' < m ∧ W (i + 1) m' σ4 (upd H6 D (.lst (xs ++ [y]))) else ∃ m', m' < m ∧ W (i + 1) m' σ4 H5)
def tYes : TT := fun _ H Q => Q true H
def PTs (X : Cx) (ifs : List Expr) (t : TT) : Prop :=
  ∀ (pins : List (Addr × Obj)) (s : Shared) (σ : St) (H : Hp) (Q : Bool → Hp → Prop), Inv X pins σ H s → t σ H Q →
    wpAny (model X.prog X.w) X.A (forIn ifs true fun c r => if r = true then do let ok ← isTrue c X.env (eval c X.env); pure (ForInStep.yield ok) else pure (ForInStep.yield r)) (TP X pins σ Q) X.xe s
theorem pts_nil : PTs X [] tYes := fun _ _ _ H _ I h => wpAny_tests_nil ⟨H, I, h⟩
theorem comp_block {elt tg iter : Expr} {ifs : List Expr} {pos : Pos} {g : TG} {tt : TT} {te : TE} {J : It} {H1 : Hp} {it : Addr} {fp : List Addr} {tn : Nat → Heap → Prop} {s2 : Shared} {QD : V → Hp → Prop} {RR : Value → Addr → Result → Shared → Prop} {E : Value → Shared → Prop}
    (hc : X.calm = true) (cn : CompNames X N js scope cl)
    (hg : ∀ C s H fp, PG (cxC X N scope cl C s H fp) tg g) (ht : ∀ C s H fp, PTs (cxC X N scope cl C s H fp) ifs tt) (he : ∀ C s H fp, PE (cxC X N scope cl C s H fp) elt te)
    (I : Inv X pins σ H1 s2) (T : Turn X.prog X.w X.K tg J fp it tn) (st0 : tn 0 s2.heap) (hfp : ∀ b ∈ fp, FpOk X pins H1 b)
    (h : ∀ D, H1 D = none → ∃ W : Nat → Nat → St → Hp → Prop, (∃ m, W 0 m (pickσ js σ) (upd H1 D (.lst []))) ∧
      ∀ i m σ2 H2, W i m σ2 H2 → (J.stop i H2 ∧ QD (.ref D) H2) ∨ (J.go i H2 ∧ ∀ x H3, J.yld i H2 x H3 → g x σ2 H3 fun σ4 H4 => tt σ4 H4 fun b H5 =>
        if b = true then te σ4 H5 fun y H6 => ∃ xs, H6 D = some (.lst xs) ∧ xs.length < sizeLine ∧ ∃ m', m' < m ∧ W (i + 1) m' σ4 (upd H6 D (.lst (xs ++ [y]))) else ∃ m', m' < m ∧ W (i + 1) m' σ4 H5))
    (hRR : ∀ (D C : Addr) (H2 : Hp) (s5 : Shared) (m : Str → Option Value), Inv X pins σ H2 s5 → s5.heap.Ns C m → H2 C = none → C ≠ X.env.locals → X.s₀.heap.objs.size ≤ C → (∀ x c, X.env.cells.lookup x = some c → c ≠ C) → (∀ p ∈ X.pn ++ pins, p.1 ≠ C) → QD (.ref D) H2 → RR (.ref D) C (.ok .next) s5) :
    wpAny (model X.prog X.w) X.A (newList []) (fun acc s₃ => wpAny (model X.prog X.w) X.A (newFunctionEnv scope X.env.globals cl [] X.env.qual none .none (some X.env)) (fun cenv s₄ =>
      codeAny (model X.prog X.w) X.A (.compStart (.ListComp elt [⟨tg, iter, ifs, 0⟩] scope pos) 0 (.ref it) acc { cenv with scope := relabel scope X.env }) (RR acc cenv.locals) s₄) E s₃) E s2 := by
  have I3 : Inv X pins σ (upd H1 s2.heap.objs.size (.lst [])) { s2 with heap := s2.heap.push { cls := .type "list", data := .seq ([] : List Value).toArray }, toks := s2.toks } := I.lnew .nil (Nat.zero_le _)
  refine wpAny_newObj_type (wpAny_newFunctionEnv cn.nocell (by intro y hy; simp at hy) (fun h4 ns4 sb4 => ?_) cn.kind)
  obtain ⟨W, ⟨m0, w0⟩, turn⟩ := h s2.heap.objs.size I.fresh
  have hD : H1 s2.heap.objs.size = none := I.fresh
  have lt2 : ∀ b ∈ fp, b < s2.heap.objs.size := fun b hb => by obtain ⟨o, e, _⟩ := T.obj 0 _ st0 b hb; exact Heap.lt_size e
  have hfp3 : ∀ b ∈ fp, FpOk X pins (upd H1 s2.heap.objs.size (.lst [])) b := fun b hb => ⟨by rw [upd_ne (Nat.ne_of_lt (lt2 b hb))]; exact (hfp b hb).1, (hfp b hb).2⟩
  have hin3 : ∀ b ∈ fp, ∃ o, (s2.heap.push { cls := .type "list", data := .seq ([] : List Value).toArray }).get? b = some o := fun b hb => by
    obtain ⟨o, e, _⟩ := T.obj 0 _ st0 b hb
    exact ⟨o, Heap.get?_push_of_some _ e⟩
  have I4 : Inv (cxC X N scope cl (s2.heap.push { cls := .type "list", data := .seq ([] : List Value).toArray }).objs.size { s2 with heap := s2.heap.push { cls := .type "list", data := .seq ([] : List Value).toArray }, toks := s2.toks } (upd H1 s2.heap.objs.size (.lst [])) fp) [] (pickσ js σ) (upd H1 s2.heap.objs.size (.lst []))
      { s2 with heap := h4, toks := s2.toks + ([] : List (Str × Value)).length } := comp_start (t' := s2.toks + ([] : List (Str × Value)).length) I3 cn hfp3 hin3 ns4 sb4
  have ltC : ∀ b ∈ fp, b < (s2.heap.push { cls := .type "list", data := .seq ([] : List Value).toArray }).objs.size := fun b hb => by rw [Heap.size_push]; exact Nat.lt_succ_of_lt (lt2 b hb)
  have st4 : tn 0 h4 := T.keep 0 _ _ st0 fun b hb o e => (sb4.2 b (Nat.ne_of_lt (ltC b hb))).trans (Heap.get?_push_of_some _ (Heap.get?_push_of_some _ e))
  have loop : codeAny (model X.prog X.w) X.A (.compLoop (.ListComp elt [⟨tg, iter, ifs, 0⟩] scope pos) 0 (.ref it) (.ref s2.heap.objs.size) (compEnvC scope cl (s2.heap.push { cls := .type "list", data := .seq ([] : List Value).toArray }).objs.size X.env))
      (RR (.ref s2.heap.objs.size) (s2.heap.push { cls := .type "list", data := .seq ([] : List Value).toArray }).objs.size) { s2 with heap := h4, toks := s2.toks + ([] : List (Str × Value)).length } := by
    generalize hCe : (s2.heap.push { cls := .type "list", data := .seq ([] : List Value).toArray }).objs.size = C at *
    generalize hse : ({ s2 with heap := s2.heap.push { cls := .type "list", data := .seq ([] : List Value).toArray }, toks := s2.toks } : Shared) = s3 at *
    have stat : ∀ {H' : Hp}, (∀ b ∈ fp, H' b = none) → ∀ b ∈ fp, FpOk (cxC X N scope cl C s3 (upd H1 s2.heap.objs.size (.lst [])) fp) [] H' b := fun hn b hb =>
      ⟨hn b hb, Nat.ne_of_lt (ltC b hb), I4.ok.exfs b hb, .inl hb, fun x c e => (hfp b hb).2.2.2.2.1 x c (cn.sub x c e), fun p hp => absurd (show p ∈ ([] : List (Addr × Obj)) from hp) (by simp)⟩
    refine compLoop_any (fun n s' => ∃ i σ' H', Inv (cxC X N scope cl C s3 (upd H1 s2.heap.objs.size (.lst [])) fp) [] σ' H' s' ∧ tn i s'.heap ∧ (∀ b ∈ fp, H' b = none) ∧ W i n σ' H') ?_ m0 ⟨0, _, _, I4, st4, fun b hb => (hfp3 b hb).1, w0⟩
    rintro n s5 ⟨i, σ5, H5, I5, st5, fr5, w5⟩
    rcases turn i n σ5 H5 w5 with ⟨stop, qn⟩ | ⟨go, step⟩
    · refine thn (T.done (cxC X N scope cl C s3 (upd H1 s2.heap.objs.size (.lst [])) fp) rfl rfl rfl hc i [] s5 σ5 H5 (fun _ _ => False) I5 (stat fr5) st5 stop) fun r s6 ⟨hr, I6⟩ => ?_
      subst hr
      obtain ⟨mC, nsC, _⟩ := id I6.loc
      have IX : Inv X pins σ H5 s6 := comp_end I3 hfp3 I6
      refine hRR _ C H5 s6 mC IX nsC I6.free ?_ ?_ ?_ ?_ qn
      · have := I3.lt; rw [← hCe]; exact Nat.ne_of_gt (by rw [← hse] at this; exact this)
      · have := I3.sz; rw [← hCe]; rw [← hse] at this; exact this
      · intro x c e z
        obtain ⟨v, q⟩ := I3.cell x c e
        have := q.lt
        rw [z, ← hCe, ← hse] at this
        exact absurd this (Nat.lt_irrefl _)
      · intro p hp z
        have := Heap.lt_size (I3.pin p hp).1
        rw [z, ← hCe, ← hse] at this
        exact absurd this (Nat.lt_irrefl _)
    · refine thn (T.item (cxC X N scope cl C s3 (upd H1 s2.heap.objs.size (.lst [])) fp) rfl rfl rfl hc i [] s5 σ5 H5 (fun _ _ => False) I5 (stat fr5) st5 go) fun r s6 ⟨u, hr, h6⟩ => ?_
      subst hr
      refine thn h6 fun _ s7 ⟨x, H7, I7, r7, y7, st7, fr7⟩ => ?_
      have I7' := I7.pinned (stat fr7) (T.obj _ _ st7)
      refine thn (hg C s3 _ fp _ s7 σ5 H7 x u _ I7' r7 (step x H7 y7)) fun _ s8 ⟨σ8, H8, I8, q8⟩ => ?_
      refine thn (ht C s3 _ fp _ s8 σ8 H8 _ I8 q8) fun ok s9 ⟨H9, I9, q9⟩ => ?_
      have again : ∀ {s' : Shared} {H' : Hp}, Inv (cxC X N scope cl C s3 (upd H1 s2.heap.objs.size (.lst [])) fp) ([] ++ pinsAt fp s7.heap) σ8 H' s' → (∃ m', m' < n ∧ W (i + 1) m' σ8 H') →
          ∃ m, m < n ∧ ∃ i σ' H', Inv (cxC X N scope cl C s3 (upd H1 s2.heap.objs.size (.lst [])) fp) [] σ' H' s' ∧ tn i s'.heap ∧ (∀ b ∈ fp, H' b = none) ∧ W i m σ' H' := fun {s' H'} I' ⟨m', hm, w'⟩ =>
        ⟨m', hm, i + 1, σ8, H', I'.unpinned, T.keep _ _ _ st7 fun b hb o e => (I'.pin (b, o) (List.mem_append_right _ (List.mem_append_right _ (mem_pinsAt hb e)))).1, fun b hb => by
          obtain ⟨o, e, d⟩ := T.obj _ _ st7 b hb
          exact (I'.pin (b, o) (List.mem_append_right _ (List.mem_append_right _ (mem_pinsAt hb e)))).2.1, w'⟩
      cases ok with
      | false =>
        rw [if_neg Bool.false_ne_true]
        rw [if_neg Bool.false_ne_true] at q9
        exact again I9 q9
      | true =>
        rw [if_pos rfl]
        rw [if_pos rfl] at q9
        refine thn (he C s3 _ fp _ s9 σ8 H9 _ I9 q9) fun y s10 ⟨yv, H10, I10, r10, xs, hxs, hz, q10⟩ => ?_
        refine thn (mt_append _ s10 σ8 H10 (.ref s2.heap.objs.size) [yv] _ [y] (fun _ H' => ∃ m', m' < n ∧ W (i + 1) m' σ8 H') I10 rfl (.cons r10 .nil) ⟨_, xs, yv, rfl, rfl, hxs, hz, q10⟩) fun _ s11 ⟨_, H11, I11, _, q11⟩ => again I11 q11
  exact codeAny_compStart_list loop (T.self _ 0 _ _ _ st4 loop)
theorem pe_lc {elt tg iter : Expr} {ifs : List Expr} {pos : Pos} {wi : TI} {g : TG} {tt : TT} {te : TE} (hc : X.calm = true) (cn : CompNames X N js scope cl) (hi : PI X tg iter wi)
    (hg : ∀ C s H fp, PG (cxC X N scope cl C s H fp) tg g) (ht : ∀ C s H fp, PTs (cxC X N scope cl C s H fp) ifs tt) (he : ∀ C s H fp, PE (cxC X N scope cl C s H fp) elt te)
    (hs : ∀ x, foldedSetIterable iter X.env x = pure x := by intro _; rfl) : PE X (.ListComp elt [⟨tg, iter, ifs, 0⟩] scope pos) (tLC js wi g tt te) := by
  intro pins s σ H Q I h
  rw [eval_ListComp]
  refine wpAny_comprehension_free (use := none) rfl hs cn.clos cn.kind cn.names (thn (hi pins s σ H _ I h) fun v s1 h1 => thn h1 fun itv s2 h2 => ?_)
  obtain ⟨it, fp, tn, J, H2, rfl, I2, T, st2, f2, q⟩ := h2
  refine comp_block (RR := fun acc C => compPost (model X.prog X.w) X.A X.xe none (EP X pins σ Q) acc C) hc cn hg ht he I2 T st2 f2 q ?_
  intro D C H3 s3 m I3 ns hC hL h0 hcl hp q3
  exact ⟨m, ns, fun h' sb => ⟨.ref D, H3, I3.turned (t' := s3.toks) (fun b o hb e => (sb.2 b hb).trans e) hC hL (.inr h0) hcl hp, rfl, q3⟩⟩
theorem ps_setLC {elt tg iter : Expr} {ifs : List Expr} {pos spos py : Pos} {wi : TI} {g : TG} {tt : TT} {te : TE} {k : Nat} {y : Str} (hc : X.calm = true) (cn : CompNames X N js scope cl) (hi : PI X tg iter wi)
    (hN : X.N.Nodup) (hk : X.N[k]? = some y) (hl : X.env.scope.names.lookup y = some .local)
    (hg : ∀ C s H fp, PG (cxC X N scope cl C s H fp) tg g) (ht : ∀ C s H fp, PTs (cxC X N scope cl C s H fp) ifs tt) (he : ∀ C s H fp, PE (cxC X N scope cl C s H fp) elt te)
    (hsw : swapsWith (.ListComp elt [⟨tg, iter, ifs, 0⟩] scope pos) (some (.Name y py)) spos.line X.env = pure true)
    (hs : ∀ x, foldedSetIterable iter X.env x = pure x := by intro _; rfl) : PS X (.Assign [.Name y py] (.ListComp elt [⟨tg, iter, ifs, 0⟩] scope pos) spos) (tAsg (tLC js wi g tt te) (gName k)) := by
  intro pins s σ H D' I h
  rw [exec_Assign_Name_used _ _ _ _ hsw]
  refine wpAny_bind (wpAny_standAt (wpAny_bind ?_))
  show wpAny _ _ (do let _ ← comprehension (.ListComp elt [⟨tg, iter, ifs, 0⟩] scope pos) scope X.env _ (newList []) false (eval iter X.env) (some (assign (.Name y py) X.env))) _ _ s
  refine wpAny_bind (thn (wpAny_comprehension_free (use := some (assign (.Name y py) X.env)) (Q := fun _ s' => SP X pins D' .next s') rfl hs cn.clos cn.kind cn.names (thn (hi pins s σ H _ I h) fun v s1 h1 => thn h1 fun itv s2 h2 => ?_)) fun _ s9 q9 => wpAny_pure (wpAny_pure q9))
  obtain ⟨it, fp, tn, J, H2, rfl, I2, T, st2, f2, q⟩ := h2
  refine comp_block (RR := fun acc C => compPost (model X.prog X.w) X.A X.xe (some (assign (.Name y py) X.env)) (fun _ s' => SP X pins D' .next s') acc C) (QD := fun x H1 => gName k x σ H1 D'.nx) hc cn hg ht he I2 T st2 f2 q ?_
  intro D C H3 s3 m I3 ns hC hL h0 hcl hp q3
  show wpAny _ _ (assign (.Name y py) X.env (.ref D)) _ _ s3
  refine wpAny_assign_Name (store_ok2 I3 hN hk (.inl hl) (v := .ref D) rfl (fun s4 I4 ⟨a, sb4, ha⟩ => ?_) (.inr hl))
  have hCa : C ≠ a := by
    rcases ha with z | z
    · rw [z]; exact hL
    · exact fun q => hcl y a z q.symm
  refine ⟨m, ns.sameBut sb4 hCa, fun h' sb => ⟨_, H3, I4.turned (t' := s4.toks) (fun b o hb e => (sb.2 b hb).trans e) hC hL (.inr h0) hcl hp, q3⟩⟩
end
end L2
set_option Elab.async false
set_option linter.all false
set_option maxRecDepth 100000
set_option maxHeartbeats 4000000
namespace L2
open PySem PySem.Spec PyProof.Rows
section
variable {X : Cx} {pins : List (Addr × Obj)} {σ : St} {H : Hp} {s : Shared} {h' : Heap}
theorem Inv.turnedL {t' : Nat} {fp : List Addr} (I : Inv X pins σ H s) (k : ∀ b o, b ∉ fp → s.heap.get? b = some o → h'.get? b = some o) (hf : ∀ b ∈ fp, FpOk X pins H b) : Inv X pins σ H { s with heap := h', toks := t' } := by
  have nfp : ∀ b u, H b = some u → b ∉ fp := fun b u e z => by rw [(hf b z).1] at e; cases e
  refine I.step (g' := s.gens) (d' := s.drawn) (ch := fp) (fun b hb => ⟨(hf b hb).2.2.2.1, (hf b hb).2.1, (hf b hb).2.2.2.2.1, (hf b hb).2.2.2.2.2⟩) (fun b o _ _ hc e _ => k b o hc e) (fun b o _ _ hc e _ => ⟨o.slots, k b o hc e⟩) (fun _ _ _ _ n => n)
    (fun b o hc e => ⟨o, k b o hc e⟩) (fun _ _ e => e) (fun _ _ _ e => e) (fun b ps e => ⟨#[], by rw [e]; simp⟩) (fun m hm => ?_) (fun b u e => ?_) I.bare
  · obtain ⟨o, es, ep, ho, r⟩ := hm
    exact ⟨o, es, ep, k _ o (fun z => (hf _ z).2.1 rfl) ho, r⟩
  · refine (I.hok b u e).stay (fun c v hc q => k c v ?_ q) (fun _ q => q) fun _ _ q => q
    rcases hc with z | z
    · rw [z]; exact nfp b u e
    · exact nfp c _ z
theorem Inv.newTup {T : Addr} {xs : List V} {us : List Value} {n : Nat} (I : Inv X pins σ H s) {s0 : Shared} {H0 : Hp} {σ0 : St} (I0 : Inv X pins σ0 H0 s0) (hT : s0.heap.objs.size ≤ T) (hn : H T = none) (hv : Vals xs us) (hz : xs.length ≤ sizeLine)
    (ht : s.heap.get? T = some { cls := .type "tuple", data := .seq us.toArray n }) : Inv X pins σ (upd H T (.tup xs)) s := by
  refine I.track hn ?_ ?_ ?_ ?_ ⟨hz, us, hv, ⟨_, ht, rfl, n, rfl⟩⟩
  · exact Heap.get?_none_of_le (Nat.le_trans I0.sz hT)
  · exact Nat.ne_of_gt (Nat.lt_of_lt_of_le I0.lt hT)
  · intro x c e z
    obtain ⟨v, q⟩ := I0.cell x c e
    exact absurd (Nat.lt_of_lt_of_le q.lt (by rw [z]; exact hT)) (Nat.lt_irrefl _)
  · intro p hp z
    exact absurd (Nat.lt_of_lt_of_le (Heap.lt_size (I0.pin p hp).1) (by rw [z]; exact hT)) (Nat.lt_irrefl _)
end
def Ite (K : PySem.W.Frag) (a : Addr) : It :=
  ⟨fun i H => ∃ xs x, SqL K H a xs ∧ xs[i]? = some x, fun i H v H' => ∃ T x, v = .ref T ∧ H T = none ∧ H' = upd H T (.tup [.int (i : Nat), x]) ∧ ∀ xs, SqL K H a xs → xs[i]? = some x, fun i H => ∃ xs, SqL K H a xs ∧ xs.length ≤ i⟩
theorem turn_enum {P : Program} {w : World} {K : PySem.W.Frag} {elts : List Expr} {k : Nat} {pos : Pos} (a e it : Addr) (hne : e ≠ it) :
    Turn P w K (.Tuple elts k pos) (Ite K a) [e, it] e (fun i h => (∃ old, IsEnum h e it (i : Nat) old) ∧ h.IsListIter it a i) where
  mem := by simp
  obj := fun i h st b hb => by
    obtain ⟨⟨old, h1⟩, o, h2, _, d⟩ := st
    rcases List.mem_cons.mp hb with rfl | hb
    · exact ⟨_, h1, fun v z => by cases (show Data.fields _ = Data.cell v from z)⟩
    · have z : b = it := by simpa using hb
      subst z
      exact ⟨o, h2, fun v z => by rw [d] at z; cases z⟩
  keep := fun i h h' st kk => by
    obtain ⟨⟨old, h1⟩, h2⟩ := st
    exact ⟨⟨old, kk e (by simp) _ h1⟩, h2.at fun o q => kk it (by simp) o q⟩
  item := by
    intro X hP hw hK hc i pins s σ H E I hf st hg
    subst hP hw hK
    obtain ⟨⟨old, h1⟩, h2⟩ := st
    obtain ⟨xs, x, hq, hx⟩ := hg
    obtain ⟨its, rv, p, hz⟩ := I.list hq
    obtain ⟨u, hu, ru⟩ := rv.get hx
    refine wpAny_pyNext_enum_item h1 h2 p.isList (x := u) (by simpa using hu) hne fun h3 ho hit hT hsz hk => ⟨_, rfl, ?_⟩
    refine wpAny_letOwnedTupleGo_enum ho fun h4 he4 hs4 => ?_
    have neT : s.heap.objs.size ≠ e := Nat.ne_of_gt (Heap.lt_size h1)
    have J : Inv X pins σ H { s with heap := h4, toks := s.toks + 1 } := I.turnedL (fp := [e, it]) (fun b o hb q => (hs4.2 b (fun z => hb (by simp [z]))).trans (hk b o (fun z => hb (by simp [z])) (fun z => hb (by simp [z])) q)) hf
    have fr : H s.heap.objs.size = none := I.hok.fresh (Nat.le_refl _)
    refine ⟨.ref s.heap.objs.size, upd H s.heap.objs.size (.tup [.int (i : Nat), x]), ?_, rfl, ⟨_, x, rfl, fr, rfl, fun ys hy => by rw [I.list_inj hy hq]; exact hx⟩, ⟨⟨_, he4⟩, ?_⟩, fun b hb => ?_⟩
    · exact J.newTup I (Nat.le_refl _) fr (us := [.int (i : Nat) s.toks, u]) (.cons ⟨_, rfl⟩ (.cons ru .nil)) (by show 2 ≤ sizeLine; decide) ((hs4.2 _ neT).trans hT)
    · exact hit.extBut hs4.extBut (Ne.symm hne)
    · rw [upd_ne]
      · exact (hf b hb).1
      · intro z
        subst z
        have l1 := Heap.lt_size h1
        have l2 : it < s.heap.objs.size := let ⟨_, q, _⟩ := h2; Heap.lt_size q
        rcases List.mem_cons.mp hb with z | z
        · exact absurd (z ▸ l1) (Nat.lt_irrefl _)
        · have z' : s.heap.objs.size = it := by simpa using z
          exact absurd (z' ▸ l2) (Nat.lt_irrefl _)
  done := by
    intro X hP hw hK hc i pins s σ H E I hf st hg
    subst hP hw hK
    obtain ⟨⟨old, h1⟩, h2⟩ := st
    obtain ⟨xs, hq, hx⟩ := hg
    obtain ⟨its, rv, p, hz⟩ := I.list hq
    have hl := rv.length
    exact wpAny_pyNext_enum_end (I.ok.hd hc) h1 h2 p.isList (by simp; omega) fun h' eb => ⟨rfl, I.turnedL (t' := s.toks) (fp := [e, it]) (fun b o hb q => eb b o (fun z => hb (by simp [z])) q) hf⟩
  self := fun _ _ _ _ _ st h => by
    obtain ⟨⟨old, h1⟩, _⟩ := st
    exact wpAny_pyIter_enum h1 h
section
variable {X : Cx}
def iEnum (K : PySem.W.Frag) (tl : TE) : TI := fun σ H R => tl σ H fun x H1 => ∃ a, x = .ref a ∧ (∃ xs, SqL K H1 a xs) ∧ R (Ite K a) H1
theorem pi_enum {elts : List Expr} {k : Nat} {pos p cpos : Pos} {l : Expr} {tl : TE} (hg : Gl X "enumerate") (hm : X.mg "enumerate" = none) (hl : PE X l tl) (hs : starEach [l] X.env = [(false, eval l X.env)] := by rfl) :
    PI X (.Tuple elts k pos) (.Call (.Name "enumerate" p) [l] [] cpos) (iEnum X.K tl) := by
  intro pins s σ H R I h
  refine Call_ (ld_blt I hg hm boot_enumerate (PyProof.Rows.callWith_type1 (thn ((pa_cons hl pa_nil (by rw [hs]; rfl)) cpos pins s σ H (fun vs H1 => match vs with | [x] => ∃ a, x = .ref a ∧ (∃ xs, SqL X.K H1 a xs) ∧ R (Ite X.K a) H1 | _ => False) I h) fun us s1 ⟨vs, H1, I1, r1, q1⟩ => ?_) hs rfl))
  match vs, q1 with
  | [x], ⟨a, e2, ⟨xs, hq⟩, q⟩ =>
    subst e2
    obtain ⟨u, rfl, ru⟩ := vals1 r1
    cases ru
    obtain ⟨its, rv, pl, hz⟩ := I1.list hq
    refine call_enumerate_list pl.isList fun h2 g1 g2 g3 g4 => ?_
    refine wpAny_pyIter_enum g1 ⟨s1.heap.objs.size + 1, [s1.heap.objs.size + 1, s1.heap.objs.size], _, _, H1, rfl, I1.kept (t' := s1.toks) g4, turn_enum a _ _ (by show @Ne Nat _ _; omega), ⟨⟨_, g1⟩, g2⟩, fun b hb => ?_, q⟩
    rcases List.mem_cons.mp hb with rfl | hb
    · exact I1.fpOk (Nat.le_succ _) (I1.hok.fresh (Nat.le_succ _))
    · have z : b = s1.heap.objs.size := by simpa using hb
      subst z
      exact I1.fpOk (Nat.le_refl _) (I1.hok.fresh (Nat.le_refl _))
def Itz (K : PySem.W.Frag) (a b : Addr) : It :=
  ⟨fun i H => ∃ xs ys x y, SqL K H a xs ∧ SqL K H b ys ∧ xs[i]? = some x ∧ ys[i]? = some y, fun i H v H' => ∃ T x y, v = .ref T ∧ H T = none ∧ H' = upd H T (.tup [x, y]) ∧ (∀ xs, SqL K H a xs → xs[i]? = some x) ∧ ∀ ys, SqL K H b ys → ys[i]? = some y,
    fun i H => ∃ xs ys, SqL K H a xs ∧ SqL K H b ys ∧ (xs.length ≤ i ∨ ys.length ≤ i)⟩
end
theorem turn_zip {P : Program} {w : World} {K : PySem.W.Frag} {elts : List Expr} {k : Nat} {pos : Pos} (a b z TI TO i1 i2 : Addr) (D : ZipApart z TI TO i1 i2 a b) :
    Turn P w K (.Tuple elts k pos) (Itz K a b) [z, TI, TO, i1, i2] z (fun i h => IsZip h z TI TO .none ∧ IsPair h TI (.ref i1) (.ref i2) ∧ (∃ x y, IsPair h TO x y) ∧ h.IsListIter i1 a i ∧ h.IsListIter i2 b i) where
  mem := by simp
  obj := fun i h st c hc => by
    obtain ⟨h1, h2, ⟨x, y, h3⟩, ⟨o4, h4, _, d4⟩, ⟨o5, h5, _, d5⟩⟩ := st
    simp only [List.mem_cons, List.not_mem_nil, or_false] at hc
    rcases hc with rfl | rfl | rfl | rfl | rfl
    · exact ⟨_, h1, fun v q => by cases (show Data.fields _ = Data.cell v from q)⟩
    · exact ⟨_, h2, fun v q => by cases (show Data.seq _ _ = Data.cell v from q)⟩
    · exact ⟨_, h3, fun v q => by cases (show Data.seq _ _ = Data.cell v from q)⟩
    · exact ⟨_, h4, fun v q => by rw [d4] at q; cases q⟩
    · exact ⟨_, h5, fun v q => by rw [d5] at q; cases q⟩
  keep := fun i h h' st kk => by
    obtain ⟨h1, h2, ⟨x, y, h3⟩, h4, h5⟩ := st
    exact ⟨kk z (by simp) _ h1, kk TI (by simp) _ h2, ⟨x, y, kk TO (by simp) _ h3⟩, h4.at fun o q => kk i1 (by simp) o q, h5.at fun o q => kk i2 (by simp) o q⟩
  item := by
    intro X hP hw hK hc i pins s σ H E I hf st hg
    subst hP hw hK
    obtain ⟨h1, h2, ⟨x0, y0, h3⟩, h4, h5⟩ := st
    obtain ⟨xs, ys, x, y, hq, hq', hx, hy⟩ := hg
    obtain ⟨its, rv, p, hz⟩ := I.list hq
    obtain ⟨its', rv', p', hz'⟩ := I.list hq'
    obtain ⟨u, hu, ru⟩ := rv.get hx
    obtain ⟨u', hu', ru'⟩ := rv'.get hy
    have zl : z < s.heap.objs.size := Heap.lt_size h1
    refine wpAny_pyNext_zip_item D h1 h2 h3 h4 h5 p.isList p'.isList (x := u) (y := u') (by simpa using hu) (by simpa using hu') fun h6 a1 a2 a3 a4 a5 a6 a7 => ⟨_, rfl, ?_⟩
    refine wpAny_letOwnedTupleGo_zip a1 fun h7 b1 hs7 => ?_
    have neT : s.heap.objs.size ≠ z := Nat.ne_of_gt zl
    have J : Inv X pins σ H { s with heap := h7, toks := s.toks } := I.turnedL (fp := [z, TI, TO, i1, i2]) (fun c o hc q => (hs7.2 c (fun e => hc (by simp [e]))).trans (a7 c o (fun e => hc (by simp [e])) (fun e => hc (by simp [e])) (fun e => hc (by simp [e])) (fun e => hc (by simp [e])) q)) hf
    have fr : H s.heap.objs.size = none := I.hok.fresh (Nat.le_refl _)
    refine ⟨.ref s.heap.objs.size, upd H s.heap.objs.size (.tup [x, y]), ?_, rfl, ⟨_, x, y, rfl, fr, rfl, fun l hl => by rw [I.list_inj hl hq]; exact hx, fun l hl => by rw [I.list_inj hl hq']; exact hy⟩,
      ⟨b1, ?_, ⟨u, u', (hs7.2 _ D.TOz).trans a2⟩, a3.extBut hs7.extBut D.i1z, a4.extBut hs7.extBut D.i2z⟩, fun c hc => ?_⟩
    · exact J.newTup I (Nat.le_refl _) fr (us := [u, u']) (.cons ru (.cons ru' .nil)) (by show 2 ≤ sizeLine; decide) ((hs7.2 _ neT).trans a5)
    · exact (hs7.2 _ D.TIz).trans (a7 TI _ D.TIz D.TITO D.TIi1 D.TIi2 h2)
    · rw [upd_ne]
      · exact (hf c hc).1
      · intro e
        subst e
        have l1 : i1 < s.heap.objs.size := let ⟨_, q, _⟩ := h4; Heap.lt_size q
        have l2 : i2 < s.heap.objs.size := let ⟨_, q, _⟩ := h5; Heap.lt_size q
        have l3 := Heap.lt_size h2
        have l4 := Heap.lt_size h3
        simp only [List.mem_cons, List.not_mem_nil, or_false] at hc
        rcases hc with e | e | e | e | e
        · exact absurd (e ▸ zl) (Nat.lt_irrefl _)
        · exact absurd (e ▸ l3) (Nat.lt_irrefl _)
        · exact absurd (e ▸ l4) (Nat.lt_irrefl _)
        · exact absurd (e ▸ l1) (Nat.lt_irrefl _)
        · exact absurd (e ▸ l2) (Nat.lt_irrefl _)
  done := by
    intro X hP hw hK hc i pins s σ H E I hf st hg
    subst hP hw hK
    obtain ⟨h1, h2, ⟨x0, y0, h3⟩, h4, h5⟩ := st
    obtain ⟨xs, ys, hq, hq', hx⟩ := hg
    obtain ⟨its, rv, p, hz⟩ := I.list hq
    obtain ⟨its', rv', p', hz'⟩ := I.list hq'
    have hl := rv.length
    have hl' := rv'.length
    refine wpAny_pyNext_zip_end (I.ok.hd hc) D h1 h2 h3 h4 h5 p.isList p'.isList ?_ fun h' eb => ⟨rfl, I.turnedL (t' := s.toks) (fp := [z, TI, TO, i1, i2]) (fun c o hc q => eb c o (fun e => hc (by simp [e])) (fun e => hc (by simp [e])) (fun e => hc (by simp [e])) (fun e => hc (by simp [e])) q) hf⟩
    rcases hx with hx | hx
    · exact .inl (by simp; omega)
    · exact .inr (by simp; omega)
  self := fun _ _ _ _ _ st h => wpAny_pyIter_zip st.1 h
theorem zipApart {n a b : Nat} (ha : a < n) (hb : b < n) : ZipApart (n + 4) (n + 2) (n + 3) n (n + 1) a b := by
  constructor <;> (show @Ne Nat _ _; omega)
section
variable {X : Cx}
def iZip (K : PySem.W.Frag) (t1 t2 : TE) : TI := fun σ H R => t1 σ H fun x H1 => t2 σ H1 fun y H2 => ∃ a b, x = .ref a ∧ y = .ref b ∧ (∃ xs, SqL K H2 a xs) ∧ (∃ ys, SqL K H2 b ys) ∧ R (Itz K a b) H2
theorem pi_zip {elts : List Expr} {k : Nat} {pos p cpos : Pos} {l1 l2 : Expr} {t1 t2 : TE} (hg : Gl X "zip") (hm : X.mg "zip" = none) (hl1 : PE X l1 t1) (hl2 : PE X l2 t2)
    (hs : starEach [l1, l2] X.env = (false, eval l1 X.env) :: starEach [l2] X.env := by rfl) (hs2 : starEach [l2] X.env = (false, eval l2 X.env) :: starEach [] X.env := by rfl) (hpl : (backTo cpos (starEach [l2] X.env)).any (·.1) = false := by rfl) :
    PI X (.Tuple elts k pos) (.Call (.Name "zip" p) [l1, l2] [] cpos) (iZip X.K t1 t2) := by
  intro pins s σ H R I h
  refine Call_ (ld_blt I hg hm boot_zip (PyProof.Rows.callWith_type1 (thn ((pa_cons hl1 (pa_cons hl2 pa_nil hs2) hs) cpos pins s σ H (fun vs H2 => match vs with | [x, y] => ∃ a b, x = .ref a ∧ y = .ref b ∧ (∃ xs, SqL X.K H2 a xs) ∧ (∃ ys, SqL X.K H2 b ys) ∧ R (Itz X.K a b) H2 | _ => False) I h) fun us s1 ⟨vs, H1, I1, r1, q1⟩ => ?_) hs hpl))
  match vs, q1 with
  | [x, y], ⟨a, b, e1, e2, ⟨xs, hq⟩, ⟨ys, hq'⟩, q⟩ =>
    subst e1 e2
    obtain ⟨u, u', rfl, ru, ru'⟩ := vals2 r1
    cases ru
    cases ru'
    obtain ⟨its, rv, pl, hz⟩ := I1.list hq
    obtain ⟨its', rv', pl', hz'⟩ := I1.list hq'
    have la : a < s1.heap.objs.size := by obtain ⟨o, n, e, _⟩ := pl; exact Heap.lt_size e
    have lb : b < s1.heap.objs.size := by obtain ⟨o, n, e, _⟩ := pl'; exact Heap.lt_size e
    refine call_zip_2 pl.isList pl'.isList fun h2 g1 g2 g3 g4 g5 g6 g7 => ?_
    refine wpAny_pyIter_zip g1 ⟨s1.heap.objs.size + 4, [s1.heap.objs.size + 4, s1.heap.objs.size + 2, s1.heap.objs.size + 3, s1.heap.objs.size, s1.heap.objs.size + 1], _, _, H1, rfl, I1.kept (t' := s1.toks) g7,
      turn_zip a b _ _ _ _ _ (zipApart la lb), ⟨g1, g2, ⟨_, _, g3⟩, g4, g5⟩, fun c hc => ?_, q⟩
    have hle : s1.heap.objs.size ≤ c := by
      simp only [List.mem_cons, List.not_mem_nil, or_false] at hc
      rcases hc with rfl | rfl | rfl | rfl | rfl <;> omega
    exact I1.fpOk hle (I1.hok.fresh hle)
end
end L2
set_option Elab.async false
set_option linter.all false
set_option maxRecDepth 100000
set_option maxHeartbeats 4000000
namespace L2
open PySem PySem.Spec PyProof.Rows
mutual
/-- the value v bears the datum d -/
def Rep (K : PySem.W.Frag) (H : Hp) : PyData → V → Prop
  | .none, v => v = .non
  | .bool b, v => v = .bl b
  | .int i, v => v = .int i
  | .str x, v => v = .str x
  | .list ds, v => ∃ a xs, v = .ref a ∧ SqL K H a xs ∧ RepL K H ds xs
  | .tuple ds, v => ∃ a xs, v = .ref a ∧ SqT K H a xs ∧ RepL K H ds xs
  | .dict _, _ => False
def RepL (K : PySem.W.Frag) (H : Hp) : List PyData → List V → Prop
  | [], xs => xs = []
  | d :: ds, xs => ∃ y ys, xs = y :: ys ∧ Rep K H d y ∧ RepL K H ds ys
end
section
variable {K : PySem.W.Frag} {H H' : Hp}
theorem RepL.nil : RepL K H [] [] := by unfold RepL; rfl
theorem RepL.cons {d : PyData} {ds : List PyData} {x : V} {xs : List V} (h : Rep K H d x) (t : RepL K H ds xs) : RepL K H (d :: ds) (x :: xs) := by
  unfold RepL
  exact ⟨x, xs, rfl, h, t⟩
theorem RepL.uncons {d : PyData} {ds : List PyData} {xs : List V} (h : RepL K H (d :: ds) xs) : ∃ y ys, xs = y :: ys ∧ Rep K H d y ∧ RepL K H ds ys := by
  unfold RepL at h
  exact h
theorem RepL.unnil {xs : List V} (h : RepL K H [] xs) : xs = [] := by
  unfold RepL at h
  exact h
theorem Rep.int {i : Int} : Rep K H (.int i) (.int i) := by unfold Rep; rfl
theorem Rep.str {x : Str} : Rep K H (.str x) (.str x) := by unfold Rep; rfl
theorem Rep.bool {b : Bool} : Rep K H (.bool b) (.bl b) := by unfold Rep; rfl
theorem Rep.none : Rep K H .none .non := by unfold Rep; rfl
theorem Rep.list {a : Addr} {xs : List V} {ds : List PyData} (h : SqL K H a xs) (r : RepL K H ds xs) : Rep K H (.list ds) (.ref a) := by unfold Rep; exact ⟨a, xs, rfl, h, r⟩
theorem Rep.tuple {a : Addr} {xs : List V} {ds : List PyData} (h : SqT K H a xs) (r : RepL K H ds xs) : Rep K H (.tuple ds) (.ref a) := by unfold Rep; exact ⟨a, xs, rfl, h, r⟩
theorem Rep.int_of {i : Int} {v : V} (h : Rep K H (.int i) v) : v = .int i := by unfold Rep at h; exact h
theorem Rep.str_of {x : Str} {v : V} (h : Rep K H (.str x) v) : v = .str x := by unfold Rep at h; exact h
theorem Rep.bool_of {b : Bool} {v : V} (h : Rep K H (.bool b) v) : v = .bl b := by unfold Rep at h; exact h
theorem Rep.none_of {v : V} (h : Rep K H .none v) : v = .non := by unfold Rep at h; exact h
theorem Rep.list_of {ds : List PyData} {v : V} (h : Rep K H (.list ds) v) : ∃ a xs, v = .ref a ∧ SqL K H a xs ∧ RepL K H ds xs := by unfold Rep at h; exact h
theorem Rep.tuple_of {ds : List PyData} {v : V} (h : Rep K H (.tuple ds) v) : ∃ a xs, v = .ref a ∧ SqT K H a xs ∧ RepL K H ds xs := by unfold Rep at h; exact h
theorem Same.seqT {a : Addr} {xs : List V} (e : Same H H') (h : SqT K H a xs) : SqT K H' a xs := by
  rcases h with (h | ⟨o, h⟩) | h
  · exact .inl (.inl (e _ _ h))
  · exact .inl (.inr ⟨o, e _ _ h⟩)
  · exact .inr h
mutual
theorem Rep.mono (e : Same H H') : ∀ {d : PyData} {v : V}, Rep K H d v → Rep K H' d v
  | .none, _, h => by rw [h.none_of]; exact Rep.none
  | .bool b, _, h => by rw [h.bool_of]; exact Rep.bool
  | .int i, _, h => by rw [h.int_of]; exact Rep.int
  | .str x, _, h => by rw [h.str_of]; exact Rep.str
  | .list ds, _, h => by
    obtain ⟨a, xs, rfl, q, r⟩ := h.list_of
    exact Rep.list (e.seq q) (RepL.mono e r)
  | .tuple ds, _, h => by
    obtain ⟨a, xs, rfl, q, r⟩ := h.tuple_of
    exact Rep.tuple (e.seqT q) (RepL.mono e r)
  | .dict _, _, h => by unfold Rep at h; exact h.elim
theorem RepL.mono (e : Same H H') : ∀ {ds : List PyData} {xs : List V}, RepL K H ds xs → RepL K H' ds xs
  | [], _, h => by rw [h.unnil]; exact RepL.nil
  | d :: ds, _, h => by
    obtain ⟨y, ys, rfl, r, t⟩ := h.uncons
    exact RepL.cons (Rep.mono e r) (RepL.mono e t)
end
theorem RepL.length : ∀ {ds : List PyData} {xs : List V}, RepL K H ds xs → ds.length = xs.length
  | [], _, h => by rw [h.unnil]; rfl
  | d :: ds, _, h => by
    obtain ⟨y, ys, rfl, r, t⟩ := h.uncons
    simp [RepL.length t]
theorem RepL.get : ∀ {ds : List PyData} {xs : List V} {i : Nat} {d : PyData}, RepL K H ds xs → ds[i]? = some d → ∃ x, xs[i]? = some x ∧ Rep K H d x
  | [], _, _, _, h, e => by simp at e
  | d :: ds, _, 0, _, h, e => by
    obtain ⟨y, ys, rfl, r, t⟩ := h.uncons
    simp at e
    subst e
    exact ⟨y, rfl, r⟩
  | d :: ds, _, i + 1, _, h, e => by
    obtain ⟨y, ys, rfl, r, t⟩ := h.uncons
    obtain ⟨x, q1, q2⟩ := RepL.get (i := i) t (by simpa using e)
    exact ⟨x, by simpa using q1, q2⟩
theorem RepL.getV : ∀ {ds : List PyData} {xs : List V} {i : Nat} {x : V}, RepL K H ds xs → xs[i]? = some x → ∃ d, ds[i]? = some d ∧ Rep K H d x
  | [], _, _, _, h, e => by rw [h.unnil] at e; simp at e
  | d :: ds, _, 0, _, h, e => by
    obtain ⟨y, ys, rfl, r, t⟩ := h.uncons
    simp at e
    subst e
    exact ⟨d, rfl, r⟩
  | d :: ds, _, i + 1, _, h, e => by
    obtain ⟨y, ys, rfl, r, t⟩ := h.uncons
    obtain ⟨x, q1, q2⟩ := RepL.getV (i := i) t (by simpa using e)
    exact ⟨x, by simpa using q1, q2⟩
theorem RepL.append : ∀ {ds es : List PyData} {xs ys : List V}, RepL K H ds xs → RepL K H es ys → RepL K H (ds ++ es) (xs ++ ys)
  | [], _, _, _, h, t => by rw [h.unnil]; exact t
  | d :: ds, _, _, _, h, t => by
    obtain ⟨y, ys, rfl, r, t'⟩ := h.uncons
    exact RepL.cons r (RepL.append t' t)
theorem RepL.take : ∀ {ds : List PyData} {xs : List V} (n : Nat), RepL K H ds xs → RepL K H (ds.take n) (xs.take n)
  | _, _, 0, _ => by simp; exact RepL.nil
  | [], _, n + 1, h => by rw [h.unnil]; simp; exact RepL.nil
  | d :: ds, _, n + 1, h => by
    obtain ⟨y, ys, rfl, r, t⟩ := h.uncons
    simp only [List.take_succ_cons]
    exact RepL.cons r (RepL.take n t)
theorem RepL.drop : ∀ {ds : List PyData} {xs : List V} (n : Nat), RepL K H ds xs → RepL K H (ds.drop n) (xs.drop n)
  | _, _, 0, h => by simpa using h
  | [], _, n + 1, h => by rw [h.unnil]; simp; exact RepL.nil
  | d :: ds, _, n + 1, h => by
    obtain ⟨y, ys, rfl, r, t⟩ := h.uncons
    simp only [List.drop_succ_cons]
    exact RepL.drop n t
theorem RepL.reverse : ∀ {ds : List PyData} {xs : List V}, RepL K H ds xs → RepL K H ds.reverse xs.reverse
  | [], _, h => by rw [h.unnil]; simp; exact RepL.nil
  | d :: ds, _, h => by
    obtain ⟨y, ys, rfl, r, t⟩ := h.uncons
    simp only [List.reverse_cons]
    exact RepL.append (RepL.reverse t) (RepL.cons r RepL.nil)
theorem RepL.ints : ∀ (ns : List Int), RepL K H (ns.map .int) (ns.map .int)
  | [] => RepL.nil
  | n :: ns => RepL.cons Rep.int (RepL.ints ns)
theorem RepL.ints_of : ∀ {ns : List Int} {xs : List V}, RepL K H (ns.map .int) xs → xs = ns.map .int
  | [], _, h => h.unnil
  | n :: ns, _, h => by
    obtain ⟨y, ys, rfl, r, t⟩ := RepL.uncons h
    rw [r.int_of, RepL.ints_of t]
    rfl
end
section
variable {X : Cx} {pins : List (Addr × Obj)} {σ : St} {H : Hp} {s : Shared}
mutual
theorem Inv.reads (I : Inv X pins σ H s) : ∀ {d : PyData} {v : V} {u : Value}, Rep X.K H d v → RelV v u → ∃ as, Reads s.heap u d as
  | .none, _, _, h, r => by rw [h.none_of] at r; cases r; exact ⟨_, .none⟩
  | .bool b, _, _, h, r => by rw [h.bool_of] at r; cases r; exact ⟨_, .bool b⟩
  | .int i, _, _, h, r => by rw [h.int_of] at r; obtain ⟨t, rfl⟩ := r; exact ⟨_, .int i t⟩
  | .str x, _, _, h, r => by rw [h.str_of] at r; obtain ⟨t, rfl⟩ := r; exact ⟨_, .str x t⟩
  | .list ds, _, _, h, r => by
    obtain ⟨a, xs, rfl, q, t⟩ := h.list_of
    cases r
    obtain ⟨its, rv, ⟨o, n, e, c, _, d⟩, _⟩ := I.list q
    obtain ⟨as, ra⟩ := I.readsAll t rv
    exact ⟨_, .list e c d (by simpa using ra)⟩
  | .tuple ds, _, _, h, r => by
    obtain ⟨a, xs, rfl, q, t⟩ := h.tuple_of
    cases r
    obtain ⟨its, rv, ⟨o, e, c, n, d⟩, _⟩ := I.tuple q
    obtain ⟨as, ra⟩ := I.readsAll t rv
    exact ⟨_, .tuple e c d (by simpa using ra)⟩
  | .dict _, _, _, h, _ => by unfold Rep at h; exact h.elim
theorem Inv.readsAll (I : Inv X pins σ H s) : ∀ {ds : List PyData} {xs : List V} {us : List Value}, RepL X.K H ds xs → Vals xs us → ∃ as, ReadsAll s.heap us ds as
  | [], _, _, h, r => by rw [h.unnil] at r; cases r; exact ⟨_, .nil⟩
  | d :: ds, _, _, h, r => by
    obtain ⟨y, ys, rfl, p, t⟩ := h.uncons
    cases r with
    | cons r1 r2 =>
      obtain ⟨as, ra⟩ := I.reads p r1
      obtain ⟨bs, rb⟩ := I.readsAll t r2
      exact ⟨_, .cons ra rb⟩
end
def rEqD (K : PySem.W.Frag) (neg : Bool) : R2 := fun x y H Q => ∃ d e, Rep K H d x ∧ Rep K H e y ∧ d.canLay0 = true ∧ e.canLay0 = true ∧ min d.depth e.depth ≤ 60 ∧ Q (.bl (if neg then !PyData.eqv d e else PyData.eqv d e)) H
theorem op_neD (hu : X.A.units + 64 < cLine) : OpR X (compareOp .NotEq) (rEqD X.K true) := by
  intro pins s σ H x y v u Q I rx ry h
  obtain ⟨d, e, hd, he, c1, c2, hm, q⟩ := h
  obtain ⟨as, ra⟩ := I.reads hd rx
  obtain ⟨bs, rb⟩ := I.reads he ry
  exact SeqAt.compareNe_reads ra rb c1 c2 (by omega) ⟨.bl _, H, I, rfl, q⟩
def clsV : V → Option Value
  | .ty n => some (.type n)
  | .ref C => some (.ref C)
  | _ => Option.none
theorem call_isinst : CallR X (.builtin "isinstance") (fun xs H Q => ∃ x c t cv b, xs = [x, c] ∧ clsV c = some cv ∧ TyOf X.K H x t ∧ PySem.W.kitOne X.K t cv = some b ∧ Q (.bl b) H) := by
  intro pins s σ H xs us Q I r h
  obtain ⟨x, c, t, cv, b, rfl, hc, ty, hk, q⟩ := h
  obtain ⟨u, u', rfl, ru, ru'⟩ := vals2 r
  have e : u' = cv := by
    cases c with
    | ty n => cases ru'; cases hc; rfl
    | ref C => cases ru'; cases hc; rfl
    | _ => cases hc
  subst e
  exact isinst_ok I ru ty hk fun tk => ⟨.bl b, H, I.tok tk, rfl, q⟩
theorem log2_small {n : Nat} (h : n < 10 ^ 20) : n.log2 < 1920 := by
  by_cases h0 : n = 0
  · subst h0; decide
  · rw [Nat.log2_lt h0]
    exact Nat.lt_of_lt_of_le h (Nat.le_trans (by decide : 10 ^ 20 ≤ 2 ^ 67) (Nat.pow_le_pow_right (by decide) (by decide)))
def PStr (X : Cx) (e : Expr) (pre : St → Hp → Prop) (n : Nat) : Prop :=
  ∀ (pins : List (Addr × Obj)) (s : Shared) (σ : St) (H : Hp), Inv X pins σ H s → pre σ H → wpAny (model X.prog X.w) X.A (eval e X.env) (fun u s' => ∃ x t, u = .str x t ∧ x.length ≤ n ∧ Inv X pins σ H s') X.xe s
theorem pstr_const {x : Str} {j : Nat} {pos : Pos} : PStr X (.Constant (.str x) j pos) (fun _ _ => True) x.length :=
  fun _ _ _ _ I _ => Calls.Constant_str ⟨x, _, rfl, Nat.le_refl _, I.tok _⟩
theorem pstr_int (i : Nat) {x : Str} {p pos : Pos} (hN : X.N[i]? = some x := by rfl) (hv : Vis X.env.scope x := by first | exact Or.inl rfl | exact Or.inr (Or.inl rfl) | exact Or.inr (Or.inr rfl)) (hd : (x == ("__debug__" : Str)) = false := by decide)
    (hcd : (x == ("__classdict__" : Str)) = false := by decide) : PStr X (.FormattedValue (.Name x p) (-1) none pos) (fun σ _ => ∃ k : Int, σ[i]? = some (some (.int k)) ∧ k.natAbs < 10 ^ 20) 21 := by
  intro pins s σ H I h
  obtain ⟨k, e1, hk⟩ := h
  refine wpAny_FormattedValue_plain (thn ((pe_var hN hv hd hcd) pins s σ H (fun v H1 => v = .int k ∧ H1 = H) I ⟨_, e1, rfl, rfl⟩) fun u s1 ⟨v, H1, I1, r1, e2, e3⟩ => ?_)
  subst e2 e3
  obtain ⟨t, rfl⟩ := r1
  have hl := int_text_length_le10 (k := 20) (by decide) hk
  refine wpAny_formatField_int (log2_small hk) ⟨_, _, rfl, ?_, I1.tok _⟩
  rw [PySem.ofString_length]
  exact hl
theorem pstr_intr (i : Nat) {x : Str} {p pos : Pos} (hN : X.N[i]? = some x := by rfl) (hv : Vis X.env.scope x := by first | exact Or.inl rfl | exact Or.inr (Or.inl rfl) | exact Or.inr (Or.inr rfl)) (hd : (x == ("__debug__" : Str)) = false := by decide)
    (hcd : (x == ("__classdict__" : Str)) = false := by decide) : PStr X (.FormattedValue (.Name x p) 114 none pos) (fun σ _ => ∃ k : Int, σ[i]? = some (some (.int k)) ∧ k.natAbs < 10 ^ 20) 21 := by
  intro pins s σ H I h
  obtain ⟨k, e1, hk⟩ := h
  refine wpAny_FormattedValue_repr (thn ((pe_var hN hv hd hcd) pins s σ H (fun v H1 => v = .int k ∧ H1 = H) I ⟨_, e1, rfl, rfl⟩) fun u s1 ⟨v, H1, I1, r1, e2, e3⟩ => ?_)
  subst e2 e3
  obtain ⟨t, rfl⟩ := r1
  have hl := int_text_length_le10 (k := 20) (by decide) hk
  have hz : (Str.ofString (toString k)).length ≤ 21 := by rw [PySem.ofString_length]; exact hl
  refine pyReprObj_int (log2_small hk) (wpAny_formatField_str ⟨_, _, rfl, hz, I1.tok _⟩ ⟨_, _, rfl, hz, (I1.tok _).tok _⟩ (by rw [sizeLine_eq]; omega))
theorem tupleText_le (ts : List Str) : (tupleText ts).length ≤ piled ts + 3 := by
  unfold tupleText
  rw [strLen_append, strLen_append]
  have e1 : ((("(" : String) : Str)).length = 1 := rfl
  have e3 : (((if ts.length == 1 then ",)" else ")" : String) : Str)).length ≤ 2 := by split <;> decide
  rw [e1]
  by_cases h : ts = []
  · subst h
    have e2 : (Str.join ", " ([] : List Str)).length = 0 := rfl
    rw [e2]
    omega
  · have := join_length_add ts h
    omega
theorem ints_shown : ∀ (ns : List Int), (∀ k ∈ ns, k.natAbs < 10 ^ 20) → piled (PyData.shownAll (ns.map .int)) ≤ 23 * ns.length ∧ PyData.showableAll (ns.map .int) = true ∧ PyData.hasDictAll (ns.map .int) = false ∧ PyData.depthAll (ns.map .int) = 0
  | [], _ => ⟨Nat.le_refl _, rfl, rfl, rfl⟩
  | k :: ns, h => by
    obtain ⟨h1, h2, h3, h4⟩ := ints_shown ns fun j hj => h j (List.mem_cons_of_mem _ hj)
    have hk := h k List.mem_cons_self
    have hl := int_text_length_le10 (k := 20) (by decide) hk
    have hz : (Str.ofString (toString k)).length ≤ 21 := by rw [PySem.ofString_length]; exact hl
    refine ⟨?_, ?_, ?_, ?_⟩
    · show piled ((Str.ofString (toString k)) :: PyData.shownAll (ns.map .int)) ≤ _
      rw [piled_cons, List.length_cons]
      omega
    · show (PyData.showable (.int k) && PyData.showableAll (ns.map .int)) = true
      rw [h2, Bool.and_true]
      unfold PyData.showable
      exact decide_eq_true (log2_small hk)
    · show (PyData.hasDict (.int k) || PyData.hasDictAll (ns.map .int)) = false
      rw [h3]
      rfl
    · show max (PyData.depth (.int k)) (PyData.depthAll (ns.map .int)) = 0
      rw [h4]
      rfl
theorem pstr_tupr {kr : Nat} (hr : Room kr X.A) (i : Nat) {x : Str} {p pos : Pos} (hN : X.N[i]? = some x := by rfl) (hv : Vis X.env.scope x := by first | exact Or.inl rfl | exact Or.inr (Or.inl rfl) | exact Or.inr (Or.inr rfl)) (hd : (x == ("__debug__" : Str)) = false := by decide)
    (hcd : (x == ("__classdict__" : Str)) = false := by decide) : PStr X (.FormattedValue (.Name x p) 114 none pos) (fun σ H => ∃ (a : Addr) (ns : List Int), σ[i]? = some (some (.ref a)) ∧ SqT X.K H a (ns.map .int) ∧ ns.length ≤ 100 ∧ ∀ k ∈ ns, k.natAbs < 10 ^ 20) 2303 := by
  intro pins s σ H I h
  obtain ⟨a, ns, e1, hq, hl, hk⟩ := h
  refine wpAny_FormattedValue_repr (thn ((pe_var hN hv hd hcd) pins s σ H (fun v H1 => v = .ref a ∧ H1 = H) I ⟨_, e1, rfl, rfl⟩) fun u s1 ⟨v, H1, I1, r1, e2, e3⟩ => ?_)
  subst e2 e3
  obtain ⟨as, ra⟩ := I1.reads (Rep.tuple hq (RepL.ints ns)) r1
  cases r1
  obtain ⟨h1, h2, h3, h4⟩ := ints_shown ns hk
  have hz : (PyData.shown (.tuple (ns.map .int))).length ≤ 2303 := by
    have := tupleText_le (PyData.shownAll (ns.map .int))
    show (tupleText (PyData.shownAll (ns.map .int))).length ≤ 2303
    omega
  have hu := hr.un
  refine pyReprObj_of_reads ra h2 (fun z => by have z' : PyData.hasDictAll (ns.map .int) = true := z; rw [h3] at z'; cases z') hr.gd (by show X.A.units + (PyData.depthAll (ns.map .int) + 1) < cLine; rw [h4]; omega) (fun _ _ e => e) (fun h' u tk kk => ?_) (by rw [sizeLine_eq]; omega)
  have I2 : Inv X pins σ _ { s1 with heap := h', toks := tk } := I1.kept kk
  exact wpAny_formatField_str ⟨_, _, rfl, hz, I2⟩ ⟨_, _, rfl, hz, I2.tok _⟩ (by rw [sizeLine_eq]; omega)
theorem pstr_g {x : Str} {k : Int} {p pos : Pos} (h : PE X (.Name x p) (tC (.int k))) (hk : k.natAbs < 10 ^ 20) : PStr X (.FormattedValue (.Name x p) (-1) none pos) (fun _ _ => True) 21 := by
  intro pins s σ H I _
  refine wpAny_FormattedValue_plain (thn (h pins s σ H (fun v H1 => v = .int k ∧ H1 = H) I ⟨rfl, rfl⟩) fun u s1 ⟨v, H1, I1, r1, e2, e3⟩ => ?_)
  subst e2 e3
  obtain ⟨t, rfl⟩ := r1
  have hl := int_text_length_le10 (k := 20) (by decide) hk
  refine wpAny_formatField_int (log2_small hk) ⟨_, _, rfl, ?_, I1.tok _⟩
  rw [PySem.ofString_length]
  exact hl
def PStrs (X : Cx) (es : List Expr) (pre : St → Hp → Prop) (n : Nat) : Prop :=
  ∀ (pins : List (Addr × Obj)) (s : Shared) (σ : St) (H : Hp) (acc : Str) (Q : Str → Shared → Prop), Inv X pins σ H s → pre σ H → acc.length + n ≤ sizeLine → (∀ out s1, out.length ≤ acc.length + n → Inv X pins σ H s1 → Q out s1) →
    Joins (model X.prog X.w) X.A X.xe (evalEach es X.env) acc Q s
theorem pstrs_nil : PStrs X [] (fun _ _ => True) 0 := fun _ s _ _ acc _ I _ _ q => q acc s (Nat.le_add_right _ _) I
theorem pstrs_cons {e : Expr} {es : List Expr} {p q : St → Hp → Prop} {n m : Nat} (h : PStr X e p n) (t : PStrs X es q m) (hs : evalEach (e :: es) X.env = eval e X.env :: evalEach es X.env := by rfl) : PStrs X (e :: es) (fun σ H => p σ H ∧ q σ H) (n + m) := by
  intro pins s σ H acc Q I hp hz hQ
  rw [hs]
  refine thn (h pins s σ H I hp.1) fun u s1 ⟨x, t1, e1, hx, I1⟩ => ⟨x, t1, e1, by rw [strLen_append]; omega, ?_⟩
  exact t pins s1 σ H (acc ++ x) Q I1 hp.2 (by rw [strLen_append]; omega) fun out s2 ho I2 => hQ out s2 (by rw [strLen_append] at ho; omega) I2
theorem pe_fstr {v1 v2 : Expr} {rest : List Expr} {pre : St → Hp → Prop} {n : Nat} {pos : Pos} (h : PStrs X (v1 :: v2 :: rest) pre n) : PE X (.JoinedStr (v1 :: v2 :: rest) pos) (fun σ H Q => pre σ H ∧ n ≤ sizeLine ∧ ∀ x : Str, x.length ≤ n → Q (.str x) H) := by
  intro pins s σ H Q I hw
  obtain ⟨hp, hz, hq⟩ := hw
  have e0 : (Str.empty : Str).length = 0 := rfl
  refine wpAny_JoinedStr (h pins s σ H Str.empty _ I hp (by rw [e0]; omega) fun out s1 ho I1 => ?_)
  rw [e0] at ho
  exact ⟨by omega, .str out, H, I1.tok _, ⟨_, rfl⟩, hq out (by omega)⟩
end
end L2
set_option Elab.async false
set_option linter.all false
set_option maxRecDepth 100000
set_option maxHeartbeats 4000000
namespace L2
open PySem PySem.Spec PyProof.Rows
section
variable {prog : Program} {w : World} {A : Around} {I : Addr} {fp wr : List Addr} {n : Nat} {P : Nat → Value → Prop} {St : Nat → Heap → Prop}
abbrev dfl (d : Value) : List (Str × Value) := [(Str.ofString "default", d)]
theorem maxD_loop {R : Result → Shared → Prop} (W : Walks prog w A.in1 I fp wr n P St) (bt : Nat → Nat → Bool) (cmp : CmpOf prog w A.in1 .Gt P bt) (B : Addr) (hB : B ∉ fp) (d : Value) :
    ∀ (k j : Nat) (s : Shared) (v : Value) (c : Nat), n - (j + 1) = k → j + 1 ≤ n → St (j + 1) s.heap → P (argBest bt j) v →
    s.heap.get? B = some { cls := .type "list", dict := none, data := .seq #[v, v] c, slots := #[] } →
    (∀ u h1 tk, P (argBest bt (n - 1)) u → (∀ b o, b ∉ wr → b ≠ B → s.heap.get? b = some o → h1.get? b = some o) → R (.ok (.ret u)) { s with heap := h1, toks := tk }) →
    codeAny (model prog w) A (.builtin "max.loop" ⟨[.ref I, .none, .ref B], dfl d⟩) R s := by
  have nw : B ∉ wr := fun h => hB (W.sub _ h)
  have en : (toString "max" ++ toString ".loop" : String) = "max.loop" := by decide
  intro k
  induction k with
  | zero =>
    intro j s v c hk hj st pv hS fin
    have jn : j + 1 = n := by omega
    refine codeAny_builtin F.entry_max_loop ?_
    rw [Around.under_plainId F.plain_max_loop _]
    show wpAny _ A.in1 (seqItems? (.ref B) >>= fun _ => _) _ _ s
    refine wpAny_bind (wpAny_seqItems hS rfl ?_)
    show wpAny _ A.in1 (tryCatch (pyNext (.ref I)) _ >>= fun _ => _) _ _ s
    refine wpAny_bind (wpAny_tryCatch (W.done s _ _ (jn ▸ st) fun h1 tk kk => ?_))
    have hS1 := kk B _ nw hS
    show wpAny _ A.in1 (updateSeq B (fun _ => #[]) >>= fun _ => _) _ _ _
    refine wpAny_bind (wpAny_updateSeq hS1 rfl (wpAny_bind (wpAny_letGo (wpAny_pure ?_))))
    exact fin v _ tk (by rw [← jn]; exact pv) fun b o n1 n2 e => (Heap.get?_update_other _ _ (Ne.symm n2)).trans (kk b o n1 e)
  | succ k ih =>
    intro j s v c hk hj st pv hS fin
    have lt : j + 1 < n := by omega
    refine codeAny_builtin F.entry_max_loop ?_
    rw [Around.under_plainId F.plain_max_loop _]
    show wpAny _ A.in1 (seqItems? (.ref B) >>= fun _ => _) _ _ s
    refine wpAny_bind (wpAny_seqItems hS rfl ?_)
    show wpAny _ A.in1 (tryCatch (pyNext (.ref I)) _ >>= fun _ => _) _ _ s
    refine wpAny_bind (wpAny_tryCatch (W.item (j + 1) s _ _ lt st fun u h1 tk pu st1 kk => ?_))
    have hS1 := kk B _ nw hS
    show wpAny _ A.in1 (tryCatch (holding [u, u] (richCompare .Gt u v >>= fun _ => _)) _ >>= fun _ => _) _ _ _
    refine wpAny_bind (wpAny_tryCatch (wpAny_holding (wpAny_bind (cmp (j + 1) (argBest bt j) u v _ _ _ pu pv ?_))))
    refine wpAny_bind (wpAny_holding (wpAny_truthy_bool ?_))
    refine wpAny_bind (wpAny_letGo (wpAny_pure ?_))
    cases hb : bt (j + 1) (argBest bt j) with
    | true =>
      rw [if_pos rfl]
      refine wpAny_bind (wpAny_updateSeq hS1 rfl (wpAny_bind (wpAny_letGo ?_)))
      rw [en]
      refine wpAny_pure ⟨plainId_quiet F.plain_max_loop _, ih (j + 1) _ u _ (by omega) lt (W.frame _ _ _ st1 fun b hbf o e => ?_) (by unfold argBest; rw [if_pos hb]; exact pu) (Heap.get?_update_self _ hS1 rfl) fun z h2 tk2 pz kk2 => ?_⟩
      · exact (Heap.get?_update_other _ _ (fun q : B = b => hB (by rw [q]; exact hbf))).trans e
      · exact fin z h2 tk2 pz fun b o n1 n2 e => kk2 b o n1 n2 ((Heap.get?_update_other _ _ (Ne.symm n2)).trans (kk b o n1 e))
    | false =>
      rw [if_neg Bool.false_ne_true]
      refine wpAny_bind (wpAny_letGo ?_)
      rw [en]
      refine wpAny_pure ⟨plainId_quiet F.plain_max_loop _, ih (j + 1) _ v c (by omega) lt st1 (by unfold argBest; rw [if_neg (by rw [hb]; exact Bool.false_ne_true)]; exact pv) hS1 fun z h2 tk2 pz kk2 => ?_⟩
      exact fin z h2 tk2 pz fun b o n1 n2 e => kk2 b o n1 n2 (kk b o n1 e)
theorem maxD_first {R : Result → Shared → Prop} (W : Walks prog w A.in1 I fp wr n P St) (bt : Nat → Nat → Bool) (cmp : CmpOf prog w A.in1 .Gt P bt) (B : Addr) (hB : B ∉ fp) (d : Value) {s : Shared} {c : Nat} (st : St 0 s.heap)
    (hS : s.heap.get? B = some { cls := .type "list", dict := none, data := .seq #[] c, slots := #[] })
    (none_ : n = 0 → ∀ h1 tk, (∀ b o, b ∉ wr → b ≠ B → s.heap.get? b = some o → h1.get? b = some o) → R (.ok (.ret d)) { s with heap := h1, toks := tk })
    (fin : 0 < n → ∀ u h1 tk, P (argBest bt (n - 1)) u → (∀ b o, b ∉ wr → b ≠ B → s.heap.get? b = some o → h1.get? b = some o) → R (.ok (.ret u)) { s with heap := h1, toks := tk }) :
    codeAny (model prog w) A (.builtin "max.loop" ⟨[.ref I, .none, .ref B], dfl d⟩) R s := by
  have nw : B ∉ wr := fun h => hB (W.sub _ h)
  have en : (toString "max" ++ toString ".loop" : String) = "max.loop" := by decide
  refine codeAny_builtin F.entry_max_loop ?_
  rw [Around.under_plainId F.plain_max_loop _]
  show wpAny _ A.in1 (seqItems? (.ref B) >>= fun _ => _) _ _ s
  refine wpAny_bind (wpAny_seqItems hS rfl ?_)
  show wpAny _ A.in1 (tryCatch (pyNext (.ref I)) _ >>= fun _ => _) _ _ s
  by_cases h0 : n = 0
  · refine wpAny_bind (wpAny_tryCatch (W.done s _ _ (by rw [h0]; exact st) fun h1 tk kk => ?_))
    show wpAny _ A.in1 (do rule "max.default"; ret d) _ _ _
    exact wpAny_bind (wpAny_rule (wpAny_pure (none_ h0 h1 tk fun b o n1 _ e => kk b o n1 e)))
  · have hn : 0 < n := Nat.pos_of_ne_zero h0
    refine wpAny_bind (wpAny_tryCatch (W.item 0 s _ _ hn st fun u h1 tk pu st1 kk => ?_))
    have hS1 := kk B _ nw hS
    show wpAny _ A.in1 (updateSeq B (fun _ => #[u, u]) >>= fun _ => _) _ _ _
    refine wpAny_bind (wpAny_updateSeq hS1 rfl ?_)
    rw [en]
    refine wpAny_pure ⟨plainId_quiet F.plain_max_loop _, maxD_loop W bt cmp B hB d _ 0 _ u _ rfl hn (W.frame _ _ _ st1 fun b hbf o e => ?_) pu (Heap.get?_update_self _ hS1 rfl) fun z h2 tk2 pz kk2 => ?_⟩
    · exact (Heap.get?_update_other _ _ (fun q : B = b => hB (by rw [q]; exact hbf))).trans e
    · exact fin hn z h2 tk2 pz fun b o n1 n2 e => kk2 b o n1 n2 ((Heap.get?_update_other _ _ (Ne.symm n2)).trans (kk b o n1 e))
end
section
variable {prog : Program} {w : World} {A : Around} {E : Value → Shared → Prop} {s : Shared}
theorem args_maxD (a v : Value) : argsOk "max" ⟨[a], dfl v⟩ := by unfold argsOk; kernel_rfl
theorem call_treeK {id : String} {b : Builtin} {args : List Value} {kw : List (Str × Value)} {Q : Value → Shared → Prop} (hk : builtinKind id = none) (hp : plainId id = true) (hb : entryFor table id = some b) (ha : argsOk id ⟨args, kw⟩)
    (hc : wpAny (model prog w) A.in1 (b ⟨args, kw⟩) (fun fin s' => match fin with
      | .done f => (match (Except.ok f : Result) with | .ok (.ret v) => Q v s' | .ok _ => False | .error e => E e s')
      | .again c' => c'.quiet = true ∧ codeAny (model prog w) A c' (fun r s' => match r with | .ok (.ret v) => Q v s' | .ok _ => False | .error e => E e s') s') E s) :
    wpAny (model prog w) A (call (.builtin id) args kw) Q E s := by
  refine wpAny_call (codeAny_call_builtin hp hb ?_)
  unfold checkBuiltinCall
  rw [hk]
  cases q : Manifest.signature? id with
  | none => exact wpAny_pure hc
  | some sig =>
    unfold argsOk at ha
    rw [q] at ha
    have h2 : Bind.checkArgs id sig ⟨args, kw⟩ = pure () := ha
    show wpAny _ A.in1 (Bind.checkArgs id sig ⟨args, kw⟩) _ _ s
    rw [h2]
    exact wpAny_pure hc
theorem maxD_call {l : Addr} {xs : Array (Int × Tok)} {d : Value} {Q : Value → Shared → Prop} (hh : A.handled = none) (hl : s.heap.IsList l (intItems xs))
    (h0 : xs.size = 0 → ∀ h1 tk, (∀ b o, s.heap.get? b = some o → h1.get? b = some o) → Q d { s with heap := h1, toks := tk })
    (h : 0 < xs.size → ∀ v h1 tk, (intItems xs)[argBest (fun i j => decide (numAt xs i > numAt xs j)) (xs.size - 1)]? = some v → (∀ b o, s.heap.get? b = some o → h1.get? b = some o) → Q v { s with heap := h1, toks := tk }) :
    wpAny (model prog w) A (call (.builtin "max") [.ref l] (dfl d)) Q E s := by
  have en : (toString "max" ++ toString ".loop" : String) = "max.loop" := by decide
  have zs : (intItems xs).size = xs.size := by simp [intItems]
  refine call_treeK F.kind_max F.plain_max F.entry_max (args_maxD _ _) ?_
  show wpAny _ A.in1 (Builtin.Builtins.bindParams "max" ["key", "default"] 0 ⟨[], dfl d⟩ >>= fun _ => _) _ _ s
  refine wpAny_bind (wpAny_of_eq (show Builtin.Builtins.bindParams "max" ["key", "default"] 0 ⟨[], dfl d⟩ = pure [none, some d] from rfl) ?_)
  refine wpAny_bind (wpAny_pure ?_)
  refine wpAny_bind (iter_intList hl fun s₂ e st hfp hlI => ?_)
  subst e
  refine wpAny_bind (wpAny_newObj_type ?_)
  have nB : (s.heap.push { cls := .type "list_iterator", data := .fields #[.ref l, .int 0 0] }).objs.size ∉ [s.heap.objs.size, l] := fun hm => Nat.lt_irrefl _ (hfp _ hm)
  have old : ∀ {b : Addr} {o : Obj}, s.heap.get? b = some o → b ∉ [s.heap.objs.size] ∧ b ≠ (s.heap.push { cls := .type "list_iterator", data := .fields #[.ref l, .int 0 0] }).objs.size := fun {b o} e => by
    have hlt := Heap.lt_size e
    refine ⟨fun z => ?_, ?_⟩
    · have z' : b = s.heap.objs.size := by simpa using z
      exact absurd (z' ▸ hlt) (Nat.lt_irrefl _)
    · rw [Heap.size_push]
      exact Nat.ne_of_lt (Nat.lt_succ_of_lt hlt)
  rw [en]
  refine wpAny_pure ⟨plainId_quiet F.plain_max_loop _, maxD_first (Walks.list (A := A.in1) hh _ l hlI (intItems xs)) _ (CmpOf.ints_gt (numAt xs) (fun _ _ => intItems_at)) _ nB d ?_ (Heap.get?_push_size _ rfl) (fun hz h1 tk kk => ?_) fun hp v h1 tk pv kk => ?_⟩
  · exact ⟨st.1.at fun o e => Heap.get?_push_of_some _ e, st.2.at fun o e => Heap.get?_push_of_some _ e⟩
  · exact h0 (by omega) h1 tk fun b o e => kk b o (old e).1 (old e).2 (Heap.get?_push_of_some _ (Heap.get?_push_of_some _ e))
  · refine h (by omega) v h1 tk ?_ fun b o e => kk b o (old e).1 (old e).2 (Heap.get?_push_of_some _ (Heap.get?_push_of_some _ e))
    rw [zs] at pv
    exact pv
end
section
variable {X : Cx}
def IsMax (d : Int) (ns : List Int) (M : Int) : Prop := (ns = [] ∧ M = d) ∨ (M ∈ ns ∧ ∀ a ∈ ns, a ≤ M)
theorem IsMax.uniq {d : Int} {ns : List Int} {M M' : Int} (h : IsMax d ns M) (h' : IsMax d ns M') : M = M' := by
  rcases h with ⟨e, h⟩ | ⟨h1, h2⟩
  · rcases h' with ⟨_, h'⟩ | ⟨h1', _⟩
    · rw [h, h']
    · rw [e] at h1'; cases h1'
  · rcases h' with ⟨e, _⟩ | ⟨h1', h2'⟩
    · rw [e] at h1; cases h1
    · exact Int.le_antisymm (h2' _ h1) (h2 _ h1')
theorem items_ints {its : List Value} {ns : List Int} (hi : IntsAre its ns) : ∃ xs : Array (Int × Tok), its.toArray = intItems xs ∧ ns = xs.toList.map (·.1) := by
  obtain ⟨xs, e⟩ := hi.allInts.items
  refine ⟨xs, e, ?_⟩
  rw [← hi.numsOf, ← nums_intItems, ← e]
theorem call_sum (hc : X.calm = true) : CallR X (.builtin "sum") (fun xs H Q => ∃ (p : Addr) (ns : List Int), xs = [.ref p] ∧ SqL X.K H p (ns.map .int) ∧ Q (.int ns.sum) H) := by
  intro pins s σ H xs us Q I r h
  obtain ⟨p, ns, rfl, hq, q⟩ := h
  obtain ⟨u, rfl, ru⟩ := vals1 r
  cases ru
  obtain ⟨its, rv, pl, hz⟩ := I.list hq
  obtain ⟨ys, e, hns⟩ := items_ints (intsAre_of rv)
  refine sum_intListG (I.ok.hd hc) (by rw [← e]; exact pl.isList) fun h1 tk t1 kk => ⟨.int ns.sum, H, I.kept kk, ⟨t1, ?_⟩, q⟩
  rw [preSum_eq, List.take_of_length_le (by simp), hns]
theorem numAt_ns {ys : Array (Int × Tok)} {ns : List Int} (hns : ns = ys.toList.map (·.1)) (hs : 0 < ys.size) : numAt ys (argBest (fun i j => decide (numAt ys i > numAt ys j)) (ys.size - 1)) ∈ ns ∧
    ∀ a ∈ ns, a ≤ numAt ys (argBest (fun i j => decide (numAt ys i > numAt ys j)) (ys.size - 1)) := by
  obtain ⟨h1, h2⟩ := argBest_gt (numAt ys) (ys.size - 1)
  constructor
  · rw [hns, numAt_eq]
    exact getD_mem (by rw [List.length_map, Array.length_toList]; omega)
  · intro a ha
    rw [hns] at ha
    obtain ⟨j, hj, rfl⟩ := mem_getD ha
    rw [List.length_map, Array.length_toList] at hj
    rw [← numAt_eq]
    exact h2 j (by omega)
theorem call_maxL (hc : X.calm = true) : CallR X (.builtin "max") (fun xs H Q => ∃ (p : Addr) (ns : List Int), xs = [.ref p] ∧ SqL X.K H p (ns.map .int) ∧ ns ≠ [] ∧ ∀ M, IsMax 0 ns M → Q (.int M) H) := by
  intro pins s σ H xs us Q I r h
  obtain ⟨p, ns, rfl, hq, hne, q⟩ := h
  obtain ⟨u, rfl, ru⟩ := vals1 r
  cases ru
  obtain ⟨its, rv, pl, hz⟩ := I.list hq
  obtain ⟨ys, e, hns⟩ := items_ints (intsAre_of rv)
  have hs : 0 < ys.size := by
    have : 0 < ns.length := List.length_pos_iff.mpr hne
    rw [hns, List.length_map, Array.length_toList] at this
    exact this
  refine max_intList (I.ok.hd hc) (by rw [← e]; exact pl.isList) hs fun v h1 tk hv kk => ?_
  obtain ⟨t, rfl⟩ := intItems_at hv
  exact ⟨.int _, H, I.kept kk, ⟨t, rfl⟩, q _ (.inr (numAt_ns hns hs))⟩
def tMaxD (K : PySem.W.Frag) (t : TE) (tk : TA) : TE := fun σ H Q => t σ H fun x H1 => tk σ H1 fun zs H2 => ∃ (a : Addr) (ns : List Int) (d : Int), x = .ref a ∧ zs = [.int d] ∧ SqL K H2 a (ns.map .int) ∧ ∀ M, IsMax d ns M → Q (.int M) H2
theorem pe_max_default {e : Expr} {t : TE} {kws : List Keyword} {tk : TA} {p pos : Pos} (hc : X.calm = true) (hg : Gl X "max") (hm : X.mg "max" = none) (he : PE X e t) (hk : PK X kws tk)
    (hks : (backToKw pos (keywordEach kws X.env)).filterMap (·.1) = [Str.ofString "default"] := by rfl) (hs : starEach [e] X.env = (false, eval e X.env) :: starEach [] X.env := by rfl)
    (h1 : backTo pos (starEach [e] X.env) = (false, eval e X.env) :: backTo pos (starEach [] X.env) := by rfl) (h2 : (backTo pos (starEach [e] X.env)).any (·.1) = false := by rfl)
    (h3 : (backToKw pos (keywordEach kws X.env)).all (·.1.isSome) = true := by rfl) (h4 : (backToKw pos (keywordEach kws X.env)).any (·.1.isNone) = false := by rfl) :
    PE X (.Call (.Name "max" p) [e] kws pos) (tMaxD X.K t tk) := by
  intro pins s σ H Q I h
  refine wpAny_Call_Name_kw (ld_blt I hg hm boot_max (callWith_kw (thn ((pa_cons he pa_nil hs) pos pins s σ H (fun vs H1 => match vs with
      | [x] => tk σ H1 fun zs H2 => ∃ (a : Addr) (ns : List Int) (d : Int), x = .ref a ∧ zs = [.int d] ∧ SqL X.K H2 a (ns.map .int) ∧ ∀ M, IsMax d ns M → Q (.int M) H2
      | _ => False) I h) fun us s1 ⟨vs, H1, I1, r1, q1⟩ => ?_) h1 h2 h3 h4))
  match vs, q1 with
  | [x], q1 =>
    obtain ⟨u, rfl, ru⟩ := vals1 r1
    refine thn (hk pos pins s1 σ H1 _ I1 q1) fun ws s2 ⟨zs, H2, I2, r2, a, ns, d, e1, e2, hq, q⟩ => ?_
    subst e1 e2
    cases ru
    obtain ⟨dv, rfl, ⟨td, rfl⟩⟩ := vals1 r2
    rw [hks]
    obtain ⟨its, rv, pl, hz⟩ := I2.list hq
    obtain ⟨ys, e, hns⟩ := items_ints (intsAre_of rv)
    refine maxD_call (I2.ok.hd hc) (by rw [← e]; exact pl.isList) (fun h0 h1 tk kk => ?_) fun hs v h1 tk hv kk => ?_
    · refine ⟨.int d, H2, I2.kept kk, ⟨td, rfl⟩, q d (.inl ⟨?_, rfl⟩)⟩
      rw [hns]
      have : ys.toList.length = 0 := by rw [Array.length_toList]; exact h0
      rw [List.length_eq_zero_iff.mp this]
      rfl
    · obtain ⟨t, rfl⟩ := intItems_at hv
      exact ⟨.int _, H2, I2.kept kk, ⟨t, rfl⟩, q _ (.inr (numAt_ns hns hs))⟩
theorem call_sorted : CallR X (.builtin "sorted") (fun xs H Q => ∃ (p : Addr) (ns : List Int), xs = [.ref p] ∧ SqL X.K H p (ns.map .int) ∧ ns.length < 64 ∧ ∀ (l : Addr) (ms : List Int), H l = none → ms.Perm ns → ms.Pairwise (· ≤ ·) → Q (.ref l) (upd H l (.lst (ms.map .int)))) := by
  intro pins s σ H xs us Q I r h
  obtain ⟨p, ns, rfl, hq, h64, q⟩ := h
  obtain ⟨u, rfl, ru⟩ := vals1 r
  cases ru
  obtain ⟨its, rv, pl, hz⟩ := I.list hq
  have hl := rv.length
  rw [List.length_map] at hl
  refine sorted_ints pl.isList (intsAre_of rv) (by omega) fun out ms hi hp hs => ?_
  obtain ⟨e, he⟩ := sortedAll_at s.heap its out
  have fr : H (s.heap.objs.size + 1) = none := I.hok.fresh (Nat.le_succ _)
  refine ⟨.ref (s.heap.objs.size + 1), upd H (s.heap.objs.size + 1) (.lst (ms.map .int)), I.laid (t' := s.toks) (fun b o q => sortedAll_old q) (Nat.le_succ _) ⟨?_, out.toList, e, vals_ints hi, by simpa using he⟩, rfl, q _ ms fr hp hs⟩
  have := hp.length_eq
  rw [List.length_map, sizeLine_eq]
  omega
def tRange (ta : TA) : TE := fun σ H Q => ta σ H fun vs H1 => ∃ n : Nat, vs = [.int (n : Int)] ∧ ∀ q, H1 q = none → Q (.ref q) (upd H1 q (.rng 0 n))
theorem pe_range1 {a : Expr} {ta : TA} {p pos : Pos} (hg : Gl X "range") (hm : X.mg "range" = none) (ha : PA X [a] ta) (hs : starEach [a] X.env = [(false, eval a X.env)] := by rfl) : PE X (.Call (.Name "range" p) [a] [] pos) (tRange ta) := by
  intro pins s σ H Q I h
  refine Call_ (ld_blt I hg hm boot_range (PyProof.Rows.callWith_type1 (thn (ha pos pins s σ H _ I h) fun us s1 ⟨vs, H1, I1, r1, n, e, q⟩ => ?_) hs rfl))
  subst e
  obtain ⟨u, rfl, ⟨t, rfl⟩⟩ := vals1 r1
  refine call_range_1 ?_
  exact ⟨.ref s1.heap.objs.size, upd H1 s1.heap.objs.size (.rng 0 n), I1.laid (fun b o e => Heap.get?_push_of_some _ e) (Nat.le_refl _) ⟨_, _, _, Heap.get?_push_size _ rfl⟩, rfl, q _ (I1.hok.fresh (Nat.le_refl _))⟩
theorem vals_of : ∀ {xs : List V} {us : List Value}, xs.length = us.length → (∀ (i : Nat) x u, xs[i]? = some x → us[i]? = some u → RelV x u) → Vals xs us
  | [], [], _, _ => .nil
  | x :: xs, u :: us, hl, h => .cons (h 0 x u rfl rfl) (vals_of (by simpa using hl) fun i a b e1 e2 => h (i + 1) a b (by simpa using e1) (by simpa using e2))
  | [], _ :: _, hl, _ => by simp at hl
  | _ :: _, [], hl, _ => by simp at hl
theorem call_list_rng (hc : X.calm = true) : CallR X (.type "list") (fun xs H Q => ∃ (q : Addr) (n : Nat), xs = [.ref q] ∧ H q = some (.rng 0 n) ∧ n ≤ 2 ^ 20 ∧ ∀ l, H l = none → Q (.ref l) (upd H l (.lst ((List.range n).map fun i : Nat => V.int (i : Int))))) := by
  intro pins s σ H xs us Q I r h
  obtain ⟨q, n, rfl, hq, hn, k⟩ := h
  obtain ⟨u, rfl, ru⟩ := vals1 r
  cases ru
  obtain ⟨t, u, v, e⟩ := (show ObjOk X.prog X.w H s.heap q (.rng 0 n) from I.hok q _ hq)
  refine call_list_range (n := n) (I.ok.hd hc) e (small_one (by omega) (by omega) (by omega) (by omega)) (by rw [rangeSize_one]; split <;> omega) (by omega) fun h1 tk acc c kk hS hacc => ?_
  have fr : H s.heap.objs.size = none := I.hok.fresh (Nat.le_refl _)
  refine ⟨.ref s.heap.objs.size, upd H s.heap.objs.size (.lst ((List.range n).map fun i : Nat => V.int (i : Int))), I.laid kk (Nat.le_refl _) ⟨?_, acc.toList, c, ?_, by simpa using hS⟩, rfl, k _ fr⟩
  · rw [List.length_map, List.length_range, sizeLine_eq]; omega
  · refine vals_of ?_ fun i x w e1 e2 => ?_
    · rw [List.length_map, List.length_range, Array.length_toList]
      exact hacc.1.symm
    · have hi : i < n := by
        have := (List.getElem?_eq_some_iff.mp e1).1
        rwa [List.length_map, List.length_range] at this
      rw [List.getElem?_map, List.getElem?_range hi] at e1
      have e1' : V.int (i : Int) = x := Option.some.inj e1
      subst e1'
      obtain ⟨t', ht'⟩ := hacc.2 i w (by rw [← Array.getElem?_toList]; exact e2)
      exact ⟨t', by rw [ht']; congr 1; omega⟩
theorem vals_find {y : V} : ∀ {xs : List V} {us : List Value} {j : Nat}, Vals xs us → xs.all flatV = true → xs.findIdx? (fun z => eqV z y) = some j →
    ∃ hj : j < us.length, eqU y us[j] = true ∧ ∀ m (hm : m < us.length), m < j → eqU y us[m] = false
  | _, _, _, .nil, _, e => by simp at e
  | x :: xs, u :: us, j, .cons r t, f, e => by
    rw [List.all_cons, Bool.and_eq_true] at f
    rw [List.findIdx?_cons] at e
    by_cases hx : eqV x y = true
    · rw [if_pos hx] at e
      cases e
      exact ⟨by simp, by simpa [eqU_of r f.1] using hx, fun m hm hlt => absurd hlt (Nat.not_lt_zero _)⟩
    · rw [if_neg hx] at e
      cases q : xs.findIdx? (fun z => eqV z y) with
      | none => rw [q] at e; cases e
      | some i =>
        rw [q] at e
        have e' : i + 1 = j := Option.some.inj e
        subst e'
        obtain ⟨h1, h2, h3⟩ := vals_find t f.2 q
        refine ⟨by simpa using h1, by simpa using h2, fun m hm hlt => ?_⟩
        cases m with
        | zero => simpa [eqU_of r f.1] using hx
        | succ m => simpa using h3 m (by simpa using hm) (by omega)
theorem vals_count {y : V} : ∀ {xs : List V} {us : List Value}, Vals xs us → xs.all flatV = true → us.countP (eqU y) = xs.countP fun z => eqV z y
  | _, _, .nil, _ => rfl
  | x :: xs, u :: us, .cons r t, f => by
    rw [List.all_cons, Bool.and_eq_true] at f
    rw [List.countP_cons, List.countP_cons, eqU_of r f.1, vals_count t f.2]
def rIndex (K : PySem.W.Frag) : V → List V → Hp → VK → Prop := fun x vs H Q => ∃ l xs y j, x = .ref l ∧ vs = [y] ∧ SqL K H l xs ∧ xs.all flatV = true ∧ flatV y = true ∧ xs.findIdx? (fun z => eqV z y) = some j ∧ Q (.int (j : Nat)) H
theorem mt_index : MtR X "list.index" (rIndex X.K) := by
  intro pins s σ H x vs v us Q I rx rv h
  obtain ⟨l, xs, y, j, rfl, rfl, hq, fx, fy, hj, q⟩ := h
  cases rx
  obtain ⟨u, rfl, ru⟩ := vals1 rv
  obtain ⟨its, r, ⟨o, n, e, c, dn, d⟩, hz⟩ := I.list hq
  obtain ⟨h1, h2, h3⟩ := vals_find r fx hj
  obtain ⟨oc, od, odt, osl⟩ := o
  have c' : oc = .type "list" := c
  have d' : odt = .seq its.toArray n := d
  subst c' d'
  have hl := r.length
  refine call_meets PySem.F.slot_list_index ⟨_, e, rfl⟩ PySem.F.entry_list_index (PySem.F.args_list_index_2 _ _) (SeqAt.list_indexAt l its.toArray n od osl u (eqU y) j (by simpa using h1) (by rw [sizeLine_eq] at hz; omega) (by simpa using h2) (fun m hm hlt => by simpa using h3 m (by simpa using hm) hlt))
    ⟨e, fun w hw => mem_eqAt ru fy r fx w (by simpa using hw), ⟨.int (j : Nat), H, I.tok _, ⟨_, rfl⟩, q⟩⟩
def rCount (K : PySem.W.Frag) : V → List V → Hp → VK → Prop := fun x vs H Q => ∃ l xs y, x = .ref l ∧ vs = [y] ∧ SqL K H l xs ∧ xs.all flatV = true ∧ flatV y = true ∧ Q (.int (xs.countP fun z => eqV z y : Nat)) H
theorem mt_count : MtR X "list.count" (rCount X.K) := by
  intro pins s σ H x vs v us Q I rx rv h
  obtain ⟨l, xs, y, rfl, rfl, hq, fx, fy, q⟩ := h
  cases rx
  obtain ⟨u, rfl, ru⟩ := vals1 rv
  obtain ⟨its, r, ⟨o, n, e, c, dn, d⟩, hz⟩ := I.list hq
  obtain ⟨oc, od, odt, osl⟩ := o
  have c' : oc = .type "list" := c
  have d' : odt = .seq its.toArray n := d
  subst c' d'
  refine call_meets PySem.F.slot_list_count ⟨_, e, rfl⟩ PySem.F.entry_list_count (PySem.F.args_list_count_2 _ _) (SeqAt.list_countAt l its.toArray n od osl u (eqU y))
    ⟨e, fun w hw => mem_eqAt ru fy r fx w (by simpa using hw), ⟨.int _, H, I.tok _, ⟨s.toks, ?_⟩, q⟩⟩
  rw [show its.toArray.toList = its from rfl, vals_count r fx]
def rGetL (K : PySem.W.Frag) : R2 := fun x y H Q => ∃ p xs k v, x = .ref p ∧ y = .int (k : Nat) ∧ SqL K H p xs ∧ xs[k]? = some v ∧ Q v H
theorem get_list : PGet X (rGetL X.K) := by
  intro pins s σ H o i ov iv Q I ro ri h
  obtain ⟨p, xs, k, v, rfl, rfl, hq, he, q⟩ := h
  cases ro
  obtain ⟨t, rfl⟩ := ri
  obtain ⟨its, r, pl, hz⟩ := I.list hq
  obtain ⟨u, hu, ru⟩ := r.get he
  have hk := (List.getElem?_eq_some_iff.mp he).1
  rw [sizeLine_eq] at hz
  exact wpAny_getItem_list pl.isList (by omega) (by omega) (by simpa using hu) ⟨v, H, I, ru, q⟩
theorem pe_rev {e st : Expr} {te tst : TE} {p2 pos : Pos} (he : PE X e te) (hst : PE X st tst) :
    PE X (.Subscript e (.Slice none none (some st) p2) pos) (fun σ H Q => te σ H fun x H1 => tst σ H1 fun y H2 => y = .int (-1) ∧ ∃ a xs, x = .ref a ∧ SqL X.K H2 a xs ∧ ∀ p, H2 p = none → Q (.ref p) (upd H2 p (.lst xs.reverse))) := by
  intro pins s σ H Q I h
  refine Subscript_ (thn (he pins s σ H _ I h) fun v s1 ⟨x, H1, I1, r1, q1⟩ => ?_)
  refine wpAny_Slice ?_
  rw [evalPart_none]
  refine wpAny_pure (wpAny_pure ?_)
  rw [evalPart_some]
  refine thn (hst pins s1 σ H1 _ I1 q1) fun u s2 ⟨y, H2, I2, r2, e2, a, xs, e1, hq, q⟩ => ?_
  subst e1 e2
  cases r1
  obtain ⟨t, rfl⟩ := r2
  have I4 : Inv X pins σ H2 { s2 with heap := s2.heap.push { cls := .type "slice", data := .fields #[.none, .none, .int (-1) t] } } := I2.kept (t' := s2.toks) fun b ob q => Heap.get?_push_of_some _ q
  obtain ⟨its, r, pl, hz⟩ := I4.list hq
  have hl := r.length
  show wpAny (model X.prog X.w) X.A (subscriptTail e (.Slice none none (some st) p2) (.ref a) (.ref s2.heap.objs.size)) (EP X pins σ Q) X.xe { s2 with heap := s2.heap.push { cls := .type "slice", data := .fields #[.none, .none, .int (-1) t] } }
  refine tail_any (ops := [.ref a, .ref s2.heap.objs.size]) pl.isList.typeIs slot_list_getitem.lookup (wpAny_getItem_list_slice pl.isList (Heap.IsSliceOf.new ..) .none .none (.int (-1) t) (by decide) ?_ (by rw [List.size_toArray] <;> omega)) (by with_unfolding_all rfl)
  rw [PySem.W.krv_pick]
  refine ⟨.ref _, _, I4.laid (t' := s2.toks) (o := .lst xs.reverse) (fun b ob q => Heap.get?_push_of_some _ q) (Nat.le_refl _) ?_, rfl, q _ (I4.hok.fresh (Nat.le_refl _))⟩
  exact ⟨by rw [List.length_reverse]; exact hz, its.reverse, 0, r.reverse, Heap.get?_push_size _ rfl⟩
end
end L2
set_option Elab.async false
set_option linter.all false
set_option maxRecDepth 100000
set_option maxHeartbeats 4000000
namespace L2
open PySem PySem.Spec PyProof.Rows PySem.W PySem.Builtin.Getset_descriptor
section
variable {prog : Program} {w : World} {A : Around} {R : Result → Shared → Prop} {E : Value → Shared → Prop} {s : Shared} {K : Frag} {x C : Addr} {oe : Obj}
theorem exc_type {M : Model} {h : Heap} (hx : h.get? x = some oe) (hc : oe.cls = .ref C) : Looks M h (typeOf (.ref x)) (.ref C) := hc ▸ (Looks.ld hx).andThen .now
theorem exc_get {tp : Value} (X : K.In s.heap) (hx : s.heap.get? x = some oe) (hc : oe.cls = .ref C) (hm : mroIn K C (.type "object") = some true)
    (h : R (.ok (.ret (.ref C))) s) : codeAny (model prog w) A (.call (.builtin "getset_descriptor.__get__") ⟨[.builtin "object.__class__", .ref x, tp], []⟩) R s := by
  obtain ⟨hh, g, dr, t, os⟩ := s
  have L0 := exc_type (M := model prog w) hx hc
  have L1 := looks_mroIn (M := model prog w) X hm
  refine codeAny_call_builtin KF.slot_gs.plain KF.entry_gs ?_
  refine KF.slot_gs.check _ _ _ _ _ _ _ _ KF.type_class (KF.args_gs _ _ _) ?_
  unfold Builtin.«getset_descriptor.__get__» descrGet
  rw [dga_obj]
  refine wpAny_bind (wpAny_pure ?_)
  unfold descrGetter descrCheckInstance descrNameAndClass isInstance
  simp only [KF.owner_class]
  repeat lk
  refine ⟨Code.quiet_builtin _ (by decide +kernel), codeAny_builtin KF.entry_class ?_⟩
  unfold Builtin.«object.__class__» shownTypeOf
  repeat lk
  exact h
structure ExcLook (K : Frag) (C : Addr) : Prop where
  ga : findIn K (.ref C) "__getattribute__" = some (some (.builtin "BaseException.__getattribute__"))
  gt : findIn K (.ref C) "__getattr__" = some none
  cl : findIn K (.ref C) "__class__" = some (some (.builtin "object.__class__"))
  mo : mroIn K C (.type "object") = some true
  mb : mroIn K C (.type "BaseException") = some true
  is : ∃ cd, clsIn K C = some cd
theorem exc_entry {tk : Tok} {Q : Fin → Shared → Prop} (X : K.In s.heap) (L : ExcLook K C) (hx : s.heap.get? x = some oe) (hc : oe.cls = .ref C) (hq : Q (.done (.ret (.ref C))) s) :
    wpAny (model prog w) A (Builtin.«object.__getattribute__» ⟨[.ref x, .str "__class__" tk], []⟩) Q E s := by
  obtain ⟨hh, g, d, t, os⟩ := s
  have hT5 : (⟨hh, g, d, t, os⟩ : Shared).TypeIs (.builtin "object.__class__") "getset_descriptor" := F.typeOf_object_class
  have f5 := F.typeOf_object_class
  have f6 := F.slot_gs_get.lookup
  have f7 := F.slot_gs_set.lookup
  have L0 := exc_type (M := model prog w) hx hc
  have L1 := looks_findIn (M := model prog w) X L.cl
  repeat (any_goals (first | assumption | with_reducible refine L0.at ?_ | with_reducible refine L1.at ?_ | (with_reducible refine wpAny_loadPart_at hx ?_; rw [hc]) | wp_step))
  refine exc_get X hx hc L.mo ?_
  repeat (any_goals (first | assumption | wp_step))
theorem exc_check {M : Model} {nameV : Value} {Q : Unit → Shared → Prop} (X : K.In s.heap) (L : ExcLook K C) (hx : s.heap.get? x = some oe) (hc : oe.cls = .ref C) (hq : Q () s) :
    wpAny M A (checkBuiltinCall "BaseException.__getattribute__" ⟨[.ref x, nameV], []⟩) Q E s := by
  obtain ⟨hh, g, d, t, os⟩ := s
  have hk : builtinKind "BaseException.__getattribute__" = some .slot := by decide +kernel
  have hs : splitId "BaseException.__getattribute__" = some ("BaseException", "__getattribute__") := by decide +kernel
  have ha := F.args_bexc_ga (.ref x) nameV
  have L0 := exc_type (M := M) hx hc
  have L2 := looks_mroIn (M := M) X L.mb
  unfold checkBuiltinCall
  simp only [hk, hs]
  refine wpAny_bind ?_
  unfold isInstance
  refine wpAny_bind (L0.at (L2.at ?_))
  repeat (any_goals (first | assumption | wp_step))
theorem exc_attr {Q : Option Value → Shared → Prop} (X : K.In s.heap) (L : ExcLook K C) (hx : s.heap.get? x = some oe) (hc : oe.cls = .ref C) (hq : Q (some (.ref C)) { s with toks := s.toks + 1 }) :
    wpAny (model prog w) A (getAttr? (.ref x) "__class__") Q E s := by
  obtain ⟨hh, g, d, t, os⟩ := s
  have FB := F.excAttr_ValueError
  have f3 := FB.ga.bind (.ref x)
  have hx2 : (Value.builtin "BaseException.__getattribute__" == Value.builtin "object.__getattribute__") = false := by decide +kernel
  have hx1 : (onTheHeap (Value.ref C) && Value.builtin "BaseException.__getattribute__" == Value.builtin "object.__getattribute__") = false := by rw [hx2]; rfl
  have L0 := exc_type (M := model prog w) hx hc
  have L1 := looks_findIn (M := model prog w) X L.ga
  have L2 := looks_findIn (M := model prog w) X L.gt
  unfold getAttr? getAttrBy? getAttrBy
  repeat (any_goals (first | assumption | with_reducible refine L0.at ?_ | with_reducible refine L1.at ?_ | with_reducible refine L2.at ?_ | wp_step))
  refine codeAny_call_builtin FB.ga.plain F.entry_bexc_ga (exc_check X L hx hc (exc_entry X L hx hc ?_))
  repeat (any_goals (first | assumption | wp_step))
theorem kitx_exc (L : ExcLook K C) : KitX K (.ref x) (.ref C) (fun h => ∃ oe : Obj, h.get? x = some oe ∧ oe.cls = .ref C) where
  ty := fun _ _ _ ⟨_, h1, h2⟩ => exc_type h1 h2
  it := fun _ _ X _ => by
    obtain ⟨cd, e⟩ := L.is
    unfold clsIn at e
    split at e
    · rename_i c' d' cd' sl' ho
      intro A' Q' E' s' k q
      unfold isType loadHead
      exact wpAny_bind (wpAny_loadPart (k _ _ (X _ _ ho)) (wpAny_pure q))
    · cases e
  ne := fun h tp dd its n sl X htp => by
    obtain ⟨cd, hcl⟩ := L.is
    refine Bool.eq_false_iff.mpr fun q => ?_
    have e : C = tp := Value.ref.inj (beq_iff_eq.mp q)
    subst e
    unfold clsIn at hcl
    split at hcl
    · rename_i ho
      have z := (X _ _ ho).symm.trans htp
      cases z
    · cases hcl
  ca := fun X ⟨_, h1, h2⟩ k => exc_attr X L h1 h2 k
end
section
variable {X : Cx}
theorem call_isinstX : CallR X (.builtin "isinstance") (fun xs H Q => ∃ a C c cv b, xs = [.ref a, c] ∧ clsV c = some cv ∧ H a = some (excO a C) ∧ ExcLook X.K C ∧ kitOne X.K (.ref C) cv = some b ∧ Q (.bl b) H) := by
  intro pins s σ H xs us Q I r h
  obtain ⟨a, C, c, cv, b, rfl, hc, hH, L, hk, q⟩ := h
  obtain ⟨u, u', rfl, ru, ru'⟩ := vals2 r
  have e : u' = cv := by
    cases c with
    | ty n => cases ru'; cases hc; rfl
    | ref C => cases ru'; cases hc; rfl
    | _ => cases hc
  subst e
  cases ru
  obtain ⟨⟨oe, vs, h1, h2, _⟩, _⟩ := (show ObjOk X.prog X.w H s.heap a (excO a C) from I.hok a _ hH)
  exact kia_one (kitx_exc L) I.kIn ⟨oe, h1, h2⟩ hk (fun z => nomatch z) fun tk => ⟨.bl b, H, I.tok tk, rfl, q⟩
end
end L2
set_option Elab.async false
set_option linter.all false
set_option maxRecDepth 100000
set_option maxHeartbeats 4000000
namespace L2
open PySem PySem.Spec PyProof.Rows
mutual
/-- the value v bears the datum d -/
def Dat (H : Hp) : PyData → V → Prop
  | .none, v => v = .non
  | .bool b, v => v = .bl b
  | .int i, v => v = .int i
  | .str x, v => v = .str x
  | .list ds, v => ∃ a xs, v = .ref a ∧ H a = some (.lst xs) ∧ DatL H ds xs
  | .tuple ds, v => ∃ a xs, v = .ref a ∧ H a = some (.tup xs) ∧ DatL H ds xs
  | .dict _, _ => False
def DatL (H : Hp) : List PyData → List V → Prop
  | [], xs => xs = []
  | d :: ds, xs => ∃ y ys, xs = y :: ys ∧ Dat H d y ∧ DatL H ds ys
end
section
variable {H H' : Hp}
theorem DatL.nil : DatL H [] [] := by unfold DatL; rfl
theorem DatL.cons {d : PyData} {ds : List PyData} {x : V} {xs : List V} (h : Dat H d x) (t : DatL H ds xs) : DatL H (d :: ds) (x :: xs) := by
  unfold DatL
  exact ⟨x, xs, rfl, h, t⟩
theorem DatL.uncons {d : PyData} {ds : List PyData} {xs : List V} (h : DatL H (d :: ds) xs) : ∃ y ys, xs = y :: ys ∧ Dat H d y ∧ DatL H ds ys := by
  unfold DatL at h
  exact h
theorem DatL.unnil {xs : List V} (h : DatL H [] xs) : xs = [] := by
  unfold DatL at h
  exact h
theorem Dat.int {i : Int} : Dat H (.int i) (.int i) := by unfold Dat; rfl
theorem Dat.str {x : Str} : Dat H (.str x) (.str x) := by unfold Dat; rfl
theorem Dat.bool {b : Bool} : Dat H (.bool b) (.bl b) := by unfold Dat; rfl
theorem Dat.none : Dat H .none .non := by unfold Dat; rfl
theorem Dat.list {a : Addr} {xs : List V} {ds : List PyData} (h : H a = some (.lst xs)) (r : DatL H ds xs) : Dat H (.list ds) (.ref a) := by unfold Dat; exact ⟨a, xs, rfl, h, r⟩
theorem Dat.tuple {a : Addr} {xs : List V} {ds : List PyData} (h : H a = some (.tup xs)) (r : DatL H ds xs) : Dat H (.tuple ds) (.ref a) := by unfold Dat; exact ⟨a, xs, rfl, h, r⟩
theorem Dat.int_of {i : Int} {v : V} (h : Dat H (.int i) v) : v = .int i := by unfold Dat at h; exact h
theorem Dat.str_of {x : Str} {v : V} (h : Dat H (.str x) v) : v = .str x := by unfold Dat at h; exact h
theorem Dat.bool_of {b : Bool} {v : V} (h : Dat H (.bool b) v) : v = .bl b := by unfold Dat at h; exact h
theorem Dat.none_of {v : V} (h : Dat H .none v) : v = .non := by unfold Dat at h; exact h
theorem Dat.list_of {ds : List PyData} {v : V} (h : Dat H (.list ds) v) : ∃ a xs, v = .ref a ∧ H a = some (.lst xs) ∧ DatL H ds xs := by unfold Dat at h; exact h
theorem Dat.tuple_of {ds : List PyData} {v : V} (h : Dat H (.tuple ds) v) : ∃ a xs, v = .ref a ∧ H a = some (.tup xs) ∧ DatL H ds xs := by unfold Dat at h; exact h
mutual
theorem Dat.mono (e : Same H H') : ∀ {d : PyData} {v : V}, Dat H d v → Dat H' d v
  | .none, _, h => by rw [h.none_of]; exact Dat.none
  | .bool b, _, h => by rw [h.bool_of]; exact Dat.bool
  | .int i, _, h => by rw [h.int_of]; exact Dat.int
  | .str x, _, h => by rw [h.str_of]; exact Dat.str
  | .list ds, _, h => by
    obtain ⟨a, xs, rfl, q, r⟩ := h.list_of
    exact Dat.list (e _ _ q) (DatL.mono e r)
  | .tuple ds, _, h => by
    obtain ⟨a, xs, rfl, q, r⟩ := h.tuple_of
    exact Dat.tuple (e _ _ q) (DatL.mono e r)
  | .dict _, _, h => by unfold Dat at h; exact h.elim
theorem DatL.mono (e : Same H H') : ∀ {ds : List PyData} {xs : List V}, DatL H ds xs → DatL H' ds xs
  | [], _, h => by rw [h.unnil]; exact DatL.nil
  | d :: ds, _, h => by
    obtain ⟨y, ys, rfl, r, t⟩ := h.uncons
    exact DatL.cons (Dat.mono e r) (DatL.mono e t)
end
theorem DatL.length : ∀ {ds : List PyData} {xs : List V}, DatL H ds xs → ds.length = xs.length
  | [], _, h => by rw [h.unnil]; rfl
  | d :: ds, _, h => by
    obtain ⟨y, ys, rfl, r, t⟩ := h.uncons
    simp [DatL.length t]
theorem DatL.get : ∀ {ds : List PyData} {xs : List V} {i : Nat} {d : PyData}, DatL H ds xs → ds[i]? = some d → ∃ x, xs[i]? = some x ∧ Dat H d x
  | [], _, _, _, h, e => by simp at e
  | d :: ds, _, 0, _, h, e => by
    obtain ⟨y, ys, rfl, r, t⟩ := h.uncons
    simp at e
    subst e
    exact ⟨y, rfl, r⟩
  | d :: ds, _, i + 1, _, h, e => by
    obtain ⟨y, ys, rfl, r, t⟩ := h.uncons
    obtain ⟨x, q1, q2⟩ := DatL.get (i := i) t (by simpa using e)
    exact ⟨x, by simpa using q1, q2⟩
theorem DatL.getV : ∀ {ds : List PyData} {xs : List V} {i : Nat} {x : V}, DatL H ds xs → xs[i]? = some x → ∃ d, ds[i]? = some d ∧ Dat H d x
  | [], _, _, _, h, e => by rw [h.unnil] at e; simp at e
  | d :: ds, _, 0, _, h, e => by
    obtain ⟨y, ys, rfl, r, t⟩ := h.uncons
    simp at e
    subst e
    exact ⟨d, rfl, r⟩
  | d :: ds, _, i + 1, _, h, e => by
    obtain ⟨y, ys, rfl, r, t⟩ := h.uncons
    obtain ⟨x, q1, q2⟩ := DatL.getV (i := i) t (by simpa using e)
    exact ⟨x, by simpa using q1, q2⟩
theorem DatL.append : ∀ {ds es : List PyData} {xs ys : List V}, DatL H ds xs → DatL H es ys → DatL H (ds ++ es) (xs ++ ys)
  | [], _, _, _, h, t => by rw [h.unnil]; exact t
  | d :: ds, _, _, _, h, t => by
    obtain ⟨y, ys, rfl, r, t'⟩ := h.uncons
    exact DatL.cons r (DatL.append t' t)
theorem DatL.take : ∀ {ds : List PyData} {xs : List V} (n : Nat), DatL H ds xs → DatL H (ds.take n) (xs.take n)
  | _, _, 0, _ => by simp; exact DatL.nil
  | [], _, n + 1, h => by rw [h.unnil]; simp; exact DatL.nil
  | d :: ds, _, n + 1, h => by
    obtain ⟨y, ys, rfl, r, t⟩ := h.uncons
    simp only [List.take_succ_cons]
    exact DatL.cons r (DatL.take n t)
theorem DatL.drop : ∀ {ds : List PyData} {xs : List V} (n : Nat), DatL H ds xs → DatL H (ds.drop n) (xs.drop n)
  | _, _, 0, h => by simpa using h
  | [], _, n + 1, h => by rw [h.unnil]; simp; exact DatL.nil
  | d :: ds, _, n + 1, h => by
    obtain ⟨y, ys, rfl, r, t⟩ := h.uncons
    simp only [List.drop_succ_cons]
    exact DatL.drop n t
theorem DatL.reverse : ∀ {ds : List PyData} {xs : List V}, DatL H ds xs → DatL H ds.reverse xs.reverse
  | [], _, h => by rw [h.unnil]; simp; exact DatL.nil
  | d :: ds, _, h => by
    obtain ⟨y, ys, rfl, r, t⟩ := h.uncons
    simp only [List.reverse_cons]
    exact DatL.append (DatL.reverse t) (DatL.cons r DatL.nil)
theorem DatL.ints : ∀ (ns : List Int), DatL H (ns.map .int) (ns.map .int)
  | [] => DatL.nil
  | n :: ns => DatL.cons Dat.int (DatL.ints ns)
theorem DatL.ints_of : ∀ {ns : List Int} {xs : List V}, DatL H (ns.map .int) xs → xs = ns.map .int
  | [], _, h => h.unnil
  | n :: ns, _, h => by
    obtain ⟨y, ys, rfl, r, t⟩ := DatL.uncons h
    rw [r.int_of, DatL.ints_of t]
    rfl
mutual
theorem Dat.rep {K : PySem.W.Frag} : ∀ {d : PyData} {v : V}, Dat H d v → Rep K H d v
  | .none, _, h => by rw [h.none_of]; exact Rep.none
  | .bool b, _, h => by rw [h.bool_of]; exact Rep.bool
  | .int i, _, h => by rw [h.int_of]; exact Rep.int
  | .str x, _, h => by rw [h.str_of]; exact Rep.str
  | .list ds, _, h => by
    obtain ⟨a, xs, rfl, q, r⟩ := h.list_of
    exact Rep.list (SqL.of q) (DatL.rep r)
  | .tuple ds, _, h => by
    obtain ⟨a, xs, rfl, q, r⟩ := h.tuple_of
    exact Rep.tuple (SqT.of q) (DatL.rep r)
  | .dict _, _, h => by unfold Dat at h; exact h.elim
theorem DatL.rep {K : PySem.W.Frag} : ∀ {ds : List PyData} {xs : List V}, DatL H ds xs → RepL K H ds xs
  | [], _, h => by rw [h.unnil]; exact RepL.nil
  | d :: ds, _, h => by
    obtain ⟨y, ys, rfl, r, t⟩ := h.uncons
    exact RepL.cons (Dat.rep r) (DatL.rep t)
end
theorem DatL.snoc {ds : List PyData} {xs : List V} {d : PyData} {x : V} (h : DatL H ds xs) (r : Dat H d x) : DatL H (ds ++ [d]) (xs ++ [x]) := h.append (.cons r .nil)
theorem Dat.ints {a : Addr} {ns : List Int} (h : H a = some (.lst (ns.map .int))) : Dat H (.list (ns.map .int)) (.ref a) := .list h (.ints ns)
theorem Dat.intsT {a : Addr} {ns : List Int} (h : H a = some (.tup (ns.map .int))) : Dat H (.tuple (ns.map .int)) (.ref a) := .tuple h (.ints ns)
theorem Dat.ints_of {v : V} {ns : List Int} (h : Dat H (.list (ns.map .int)) v) : ∃ a, v = .ref a ∧ H a = some (.lst (ns.map .int)) := by
  obtain ⟨a, xs, rfl, q, r⟩ := h.list_of
  rw [r.ints_of] at q
  exact ⟨a, rfl, q⟩
theorem Dat.intsT_of {v : V} {ns : List Int} (h : Dat H (.tuple (ns.map .int)) v) : ∃ a, v = .ref a ∧ H a = some (.tup (ns.map .int)) := by
  obtain ⟨a, xs, rfl, q, r⟩ := h.tuple_of
  rw [r.ints_of] at q
  exact ⟨a, rfl, q⟩
end
def mask (D : Addr) (H : Hp) : Hp := fun b => if b = D then none else H b
section
variable {H H' H'' : Hp} {D p : Addr} {o : HO}
theorem mask_ne (h : p ≠ D) : mask D H p = H p := by unfold mask; rw [if_neg h]
theorem mask_some {u : HO} (h : mask D H p = some u) : p ≠ D ∧ H p = some u := by
  unfold mask at h
  by_cases e : p = D
  · rw [if_pos e] at h; cases h
  · rw [if_neg e] at h; exact ⟨e, h⟩
theorem mask_same : Same (mask D H) H := fun _ _ h => (mask_some h).2
theorem mask_upd : mask D (upd H D o) = mask D H := by
  funext b
  unfold mask
  by_cases e : b = D
  · rw [if_pos e, if_pos e]
  · rw [if_neg e, if_neg e, upd_ne e]
theorem mask_mono (e : Same H H') : Same (mask D H) (mask D H') := fun b u h => by
  obtain ⟨h1, h2⟩ := mask_some h
  rw [mask_ne h1]
  exact e _ _ h2
theorem same_new (h : H p = none) : Same H (upd H p o) := fun b u q => by
  rw [upd_ne fun e => by subst e; rw [h] at q; cases q]
  exact q
theorem Same.put (e : Same H H') (h : H p = none) : Same H (upd H' p o) := fun b u q => by
  rw [upd_ne fun z => by subst z; rw [h] at q; cases q]
  exact e _ _ q
theorem ne_new {u : HO} (h : H p = none) (q : H D = some u) : p ≠ D := fun e => by subst e; rw [h] at q; cases q
end
section
variable {P : Program} {w : World} {K : PySem.W.Frag} {mg : Str → Option Value} {base : Heap}
theorem Fun.okF {x qual : Str} {st : Stmt} {f : Addr} {fd : FuncData} {N ps : List Str} {k : Nat} {sp : Sp} (F : Fun K x qual st f fd) (S : FnScope N ps (defScope st)) (len : ∀ vs H Q E, sp vs H Q E → vs.length = ps.length)
    (hbody : ∀ (cdv : Value) (A : Around) (outer : List Env) (s : Shared) (H : Hp) (vs : List V) (Q : VK) (E : XK), Room k (A.deeper (envOfC qual (defScope st) s.heap.objs.size f cdv)) → sp vs H Q E →
      ∃ t, PSs (cxF P w K mg base N qual (defScope st) f cdv A outer s H E) (defBody st) t ∧ t { nx := fun _ H' => Q .non H', rt := Q } (start N vs) H) : FnOk P w K mg base (CXF P w) (k + 1) f fd ps sp := by
  obtain ⟨oc, od, kV, doc, pm, an, cdv, ct, osl, rfl, lk, hcd⟩ := F.ex
  exact fn_of lk hcd S len fun A outer s H vs Q E hr hsp => hbody cdv A outer s H vs Q E hr hsp
end
theorem lc_in {J : It} {g : TG} {te : TE} {H1 : Hp} {σ0 : St} {QD : Addr → Hp → Prop} (S : St → Prop) (n : Nat) (d : Nat → PyData) (s0 : S σ0) (hgo : ∀ i H2, i < n → Same H1 H2 → J.go i H2) (hstop : ∀ H2, Same H1 H2 → J.stop n H2) (hn : n ≤ sizeLine)
    (step : ∀ D i x σ2 H2 H3 (N : V → St → Hp → Prop), i < n → Same H1 H2 → (∃ ys, H2 D = some (.lst ys)) → S σ2 → J.yld i H2 x H3 → (∀ y σ4 H6, S σ4 → Same H2 H6 → Dat (mask D H6) (d i) y → N y σ4 H6) → g x σ2 H3 fun σ4 H4 => te σ4 H4 fun y H6 => N y σ4 H6)
    (fin : ∀ D ys H2, H1 D = none → Same H1 H2 → H2 D = some (.lst ys) → DatL (mask D H2) ((List.range n).map d) ys → QD D H2) :
    ∀ D, H1 D = none → ∃ W : Nat → Nat → St → Hp → Prop, (∃ m, W 0 m σ0 (upd H1 D (.lst []))) ∧
      ∀ i m σ2 H2, W i m σ2 H2 → (J.stop i H2 ∧ QD D H2) ∨ (J.go i H2 ∧ ∀ x H3, J.yld i H2 x H3 → g x σ2 H3 fun σ4 H4 => tYes σ4 H4 fun b H5 =>
        if b = true then te σ4 H5 fun y H6 => ∃ xs, H6 D = some (.lst xs) ∧ xs.length < sizeLine ∧ ∃ m', m' < m ∧ W (i + 1) m' σ4 (upd H6 D (.lst (xs ++ [y]))) else ∃ m', m' < m ∧ W (i + 1) m' σ4 H5) := by
  intro D hD
  refine ⟨fun i m σ2 H2 => i + m = n ∧ S σ2 ∧ Same H1 H2 ∧ ∃ ys, H2 D = some (.lst ys) ∧ DatL (mask D H2) ((List.range i).map d) ys, ⟨n, by omega, s0, same_new hD, [], upd_same, .nil⟩, ?_⟩
  intro i m σ2 H2 ⟨hi, hs, e, ys, hy, dl⟩
  by_cases c : i < n
  · refine .inr ⟨hgo i H2 c e, fun x H3 yl => ?_⟩
    refine step D i x σ2 H2 H3 (fun y σ4 H6 => ∃ xs, H6 D = some (.lst xs) ∧ xs.length < sizeLine ∧ ∃ m', m' < m ∧ _) c e ⟨ys, hy⟩ hs yl fun y σ4 H6 s4 e6 dy => ?_
    have hl := dl.length
    rw [List.length_map, List.length_range] at hl
    refine ⟨ys, e6 _ _ hy, by omega, m - 1, by omega, by omega, s4, (e.trans e6).put hD, ys ++ [y], upd_same, ?_⟩
    rw [mask_upd, List.range_succ, List.map_append]
    exact (dl.mono (mask_mono e6)).snoc dy
  · have hin : i = n := by omega
    subst hin
    exact .inl ⟨hstop H2 e, fin D ys H2 hD e hy dl⟩
theorem for_in {J : It} {g : TG} {tb : TS} {D : Ends} {H1 : Hp} {σ0 : St} (n : Nat) (I : Nat → St → Hp → Prop) (i0 : I 0 σ0 H1) (hgo : ∀ i σ H, i < n → I i σ H → J.go i H) (hstop : ∀ σ H, I n σ H → J.stop n H)
    (step : ∀ i x σ2 H2 H3, i < n → I i σ2 H2 → J.yld i H2 x H3 → g x σ2 H3 fun σ4 H4 => tb { D with nx := I (i + 1), ct := I (i + 1), bk := D.nx } σ4 H4) (fin : ∀ σ H, I n σ H → D.nx σ H) :
    ∃ W : Nat → Nat → St → Hp → Prop, (∃ m, W 0 m σ0 H1) ∧ ∀ i m σ H, W i m σ H →
      (J.stop i H ∧ D.nx σ H) ∨ (J.go i H ∧ ∃ N : St → Hp → Prop, (∀ σ' H', N σ' H' → ∃ m', m' < m ∧ W (i + 1) m' σ' H') ∧ ∀ x H', J.yld i H x H' → g x σ H' fun σ2 H2 => tb { D with nx := N, ct := N, bk := D.nx } σ2 H2) := by
  refine ⟨fun i m σ H => i + m = n ∧ I i σ H, ⟨n, by omega, i0⟩, fun i m σ H ⟨hi, hI⟩ => ?_⟩
  by_cases c : i < n
  · refine .inr ⟨hgo i σ H c hI, I (i + 1), fun σ' H' q => ⟨m - 1, by omega, by omega, q⟩, fun x H' yl => step i x σ H H' c hI yl⟩
  · have hin : i = n := by omega
    subst hin
    exact .inl ⟨hstop σ H hI, fin σ H hI⟩
end L2
set_option Elab.async false
set_option linter.all false
set_option maxRecDepth 100000
set_option maxHeartbeats 4000000
namespace L2
open PySem PySem.Spec PyProof.Rows
theorem bt_bool : bootBuiltins ("bool" : Str) = some (Value.type "bool") := by rfl
theorem bt_int : bootBuiltins ("int" : Str) = some (Value.type "int") := by rfl
theorem bt_list : bootBuiltins ("list" : Str) = some (Value.type "list") := by rfl
theorem bt_tuple : bootBuiltins ("tuple" : Str) = some (Value.type "tuple") := by rfl
theorem bt_ValueError : bootBuiltins ("ValueError" : Str) = some (Value.type "ValueError") := by rfl
theorem bt_isinstance : bootBuiltins ("isinstance" : Str) = some (Value.builtin "isinstance") := by rfl
theorem bt_sum : bootBuiltins ("sum" : Str) = some (Value.builtin "sum") := by rfl
theorem bt_sorted : bootBuiltins ("sorted" : Str) = some (Value.builtin "sorted") := by rfl
theorem bt_abs : bootBuiltins ("abs" : Str) = some (Value.builtin "abs") := by rfl
theorem bt_max : bootBuiltins ("max" : Str) = some (Value.builtin "max") := by rfl
theorem bt_min : bootBuiltins ("min" : Str) = some (Value.builtin "min") := by rfl
theorem lookup_mem {α : Type} {x : Str} {a : α} : ∀ {l : List (Str × α)}, l.lookup x = some a → (x, a) ∈ l := fun h => PySem.mem_of_lookup h
theorem cn_of {X : Cx} {N : List Str} {js : List (Option Nat)} {scope : Scope} {cl : List (Str × Addr)} (hk : scope.kind = .function) (hc : closureFor scope X.env = pure cl) (h1 : ∀ y ∈ scope.names, y.2 ≠ .cell) (h2 : ∀ y ∈ scope.names, y.2 = .local → scope.names.lookup y.1 = some .local)
    (hl : js.length = N.length) (hs : ∀ y ∈ cl, X.env.cells.lookup y.1 = some y.2) (hf : ∀ y ∈ scope.names, y.2 = .free → (cl.lookup y.1).isSome = true)
    (hj : ∀ p ∈ N.zip js, ∀ j, p.2 = some j → X.N[j]? = some p.1 ∧ X.env.kindOf p.1 = some .cell ∧ scope.names.lookup p.1 = some .free)
    (hfn : X.env.scope.kind = .function) : CompNames X N js scope cl := by
  have rl : ∀ x k, (relabel scope X.env).names.lookup x = some k → (k = .cell ∨ k = .free) → ∃ y ∈ scope.names, y.1 = x ∧ y.2 = .free := fun x k q hk2 => by
    have m := lookup_mem q
    unfold relabel at m
    obtain ⟨⟨n, k2⟩, hm, e⟩ := List.mem_map.mp m
    have e2 := h1 _ hm
    replace e : (if (k2 == NameKind.free && X.env.scope.kind == ScopeKind.function && X.env.kindOf n == some NameKind.cell) = true then (n, NameKind.cell) else (n, k2)) = (x, k) := e
    by_cases hf2 : k2 = .free
    · subst hf2
      refine ⟨_, hm, ?_, rfl⟩
      split at e
      · exact congrArg Prod.fst e
      · exact congrArg Prod.fst e
    · exfalso
      have hfb : (k2 == NameKind.free) = false := by cases k2 <;> first | rfl | exact absurd rfl hf2
      rw [hfb, Bool.false_and, Bool.false_and, if_neg Bool.false_ne_true] at e
      cases e
      rcases hk2 with h | h
      · exact e2 h
      · exact hf2 h
  refine ⟨hk, hc, h1, h2, fun x c h => hs _ (lookup_mem h), fun x h => ?_, hl, fun i j x h hx => ?_⟩
  · have : ∃ y ∈ scope.names, y.1 = x ∧ y.2 = .free := by
      rcases h with h | h
      · exact rl x _ h (.inl rfl)
      · exact rl x _ h (.inr rfl)
    obtain ⟨y, hy, rfl, e⟩ := this
    exact Option.isSome_iff_exists.mp (hf y hy e)
  · obtain ⟨hi, rfl⟩ := List.getElem?_eq_some_iff.mp hx
    obtain ⟨hi2, hj2⟩ := List.getElem?_eq_some_iff.mp h
    obtain ⟨a, b, c⟩ := hj (N[i], js[i]) (by rw [← List.getElem_zip (l := N) (l' := js) (h := by rw [List.length_zip]; omega)]; exact List.getElem_mem _) j hj2
    refine ⟨a, ?_, .inl b⟩
    show (relabel scope X.env).names.lookup N[i] = some .cell ∨ (relabel scope X.env).names.lookup N[i] = some .free
    left
    have hb : X.env.scope.names.lookup N[i] = some .cell := b
    have gen : ∀ l : List (Str × NameKind), l.lookup N[i] = some .free → (l.map (fun x => match x with | (n, k) => if (k == NameKind.free && X.env.scope.kind == ScopeKind.function && X.env.kindOf n == some NameKind.cell) = true then (n, NameKind.cell) else (n, k))).lookup N[i] = some .cell := by
      intro l
      induction l with
      | nil => intro h; cases h
      | cons p r ih =>
        intro h
        obtain ⟨n, k⟩ := p
        rw [List.lookup_cons] at h
        rw [List.map_cons]
        by_cases e : (N[i] == n) = true
        · rw [e] at h
          cases h
          have en : N[i] = n := beq_iff_eq.mp e
          have hb2 : X.env.kindOf n = some NameKind.cell := by rw [← en]; exact b
          show List.lookup N[i] ((if (NameKind.free == NameKind.free && X.env.scope.kind == ScopeKind.function && X.env.kindOf n == some NameKind.cell) = true then (n, NameKind.cell) else (n, NameKind.free)) :: _) = _
          rw [hb2, hfn, if_pos (by decide), List.lookup_cons, e]
        · rw [Bool.not_eq_true] at e
          rw [e] at h
          have := ih h
          show List.lookup N[i] ((if (k == NameKind.free && X.env.scope.kind == ScopeKind.function && X.env.kindOf n == some NameKind.cell) = true then (n, NameKind.cell) else (n, k)) :: _) = _
          split
          · rw [List.lookup_cons, e]; exact this
          · rw [List.lookup_cons, e]; exact this
    exact gen _ c
theorem cn_none {X : Cx} {N : List Str} {js : List (Option Nat)} {scope : Scope} (hk : scope.kind = .function) (hc : closureFor scope X.env = pure []) (h1 : ∀ y ∈ scope.names, y.2 ≠ .cell) (h2 : ∀ y ∈ scope.names, y.2 = .local → scope.names.lookup y.1 = some .local)
    (h3 : ∀ y ∈ scope.names, y.2 ≠ .free) (hl : js.length = N.length) (hj : ∀ o ∈ js, o = none) (hfn : X.env.scope.kind = .function) : CompNames X N js scope [] :=
  cn_of hk hc h1 h2 hl (fun y hy => absurd hy (by simp)) (fun y hy e => absurd e (h3 y hy)) (fun p hp j h => by cases (hj _ (List.of_mem_zip hp).2).symm.trans h) hfn
section
variable {X : Cx} {K : PySem.W.Frag}
theorem ix_tupK (h : X.K = K) : IxR X (rIxT K) := by subst h; exact ix_tup
theorem mt_indexK (h : X.K = K) : MtR X "list.index" (rIndex K) := by subst h; exact mt_index
theorem pg_tupK {es : List Expr} {k : Nat} {t : TGs} {n : Nat} {pos : Pos} (h : X.K = K) (hc : X.calm = true) (hp : PGs X es t) (hn : (assignEach es X.env).length = n) (hst : (assignEach es X.env).findIdx? (·.1) = none) : PG X (.Tuple es k pos) (gTup K n t) := by
  subst h
  exact pg_tup hc hp hn hst
variable {o e : Expr} {es : List Expr} {to : TE} {t : TA} {name : Str} {apos cpos : Pos} {T id : String} {r : V → List V → Hp → VK → Prop}
theorem pe_bmK (h : X.K = K) (pa : PlainAttrs T) (slot : Slot T name id) (hty : typeOf (.builtin id) = pure (.type "method_descriptor")) (hm : MtR X id r) (ho : PE X o to) (ha : PA X (e :: es) t)
    (hbase : attributeBase o name X.env (eval o X.env) = eval o X.env)
    (hfew : ((backTo cpos (starEach (e :: es) X.env)).all (fun x => !x.1) && (backToKw cpos (keywordEach [] X.env)).all (fun x => x.1.isSome)
      && decide ((e :: es).length + ([] : List Keyword).length + (if ([] : List Keyword).isEmpty then 0 else 1) < 30)) = true)
    (hline : (apos.endLine == cpos.line) = true) (hs : starEach (e :: es) X.env = (false, eval e X.env) :: starEach es X.env) (hplain : (backTo cpos (starEach es X.env)).any (·.1) = false) :
    PE X (.Call (.Attribute o name apos) (e :: es) [] cpos) (tBM K T r to t) := by
  subst h
  exact pe_bm pa slot hty hm ho ha hbase hfew hline hs hplain
end
end L2
set_option Elab.async false
set_option linter.all false
set_option maxRecDepth 100000
set_option maxHeartbeats 4000000
namespace My
open PySem L2 PySem.Spec PyProof.Rows
structure Er where
  LayError : Addr
  BadWeb : Addr
  BadOrder : Addr
  BadSpot : Addr
  BadKind : Addr
  BadText : Addr
variable {A : Er}
def tieD (t : List Int) : PyData := .tuple (t.map .int)
def webD (n : Int) (ts : List (List Int)) : PyData := .tuple [.int n, .list (ts.map tieD)]
def ordD (ns : List Int) : PyData := .list (ns.map .int)
def small (k : Int) : Prop := k.natAbs < 10 ^ 20
structure WebIn (n : Int) (ts : List (List Int)) : Prop where
  n : small n
  len : ts.length ≤ 1000
  tie : ∀ t ∈ ts, t.length ≤ 100 ∧ ∀ k ∈ t, small k
structure OrdIn (ns : List Int) : Prop where
  len : ns.length ≤ 1000
  one : ∀ k ∈ ns, small k
theorem web_of {H : Hp} {n : Int} {ts : List (List Int)} {v : V} (h : Dat H (webD n ts) v) : ∃ a l xs, v = .ref a ∧ H a = some (.tup [.int n, .ref l]) ∧ H l = some (.lst xs) ∧ DatL H (ts.map tieD) xs := by
  obtain ⟨a, xs, rfl, q, r⟩ := h.tuple_of
  obtain ⟨y, ys, rfl, r1, t1⟩ := r.uncons
  obtain ⟨z, zs, rfl, r2, t2⟩ := t1.uncons
  obtain ⟨l, xs, rfl, q2, r3⟩ := r2.list_of
  rw [r1.int_of, t2.unnil] at q
  exact ⟨a, l, xs, rfl, q, q2, r3⟩
theorem web_mk {H : Hp} {n : Int} {ts : List (List Int)} {a l : Addr} {xs : List V} (h1 : H a = some (.tup [.int n, .ref l])) (h2 : H l = some (.lst xs)) (h3 : DatL H (ts.map tieD) xs) : Dat H (webD n ts) (.ref a) :=
  .tuple h1 (.cons .int (.cons (.list h2 h3) .nil))
theorem tie_at {H : Hp} {ts : List (List Int)} {xs : List V} {i : Nat} {t : List Int} (h : DatL H (ts.map tieD) xs) (e : ts[i]? = some t) : ∃ a, xs[i]? = some (.ref a) ∧ H a = some (.tup (t.map .int)) := by
  obtain ⟨x, h1, h2⟩ := h.get (i := i) (d := tieD t) (by rw [List.getElem?_map, e]; rfl)
  obtain ⟨a, rfl, q⟩ := Dat.intsT_of h2
  exact ⟨a, h1, q⟩
def spWithin : Sp := fun vs H Q _ => ∃ v a b : Int, vs = [.int v, .int a, .int b] ∧ Q (.bl (decide (a ≤ v) && decide (v ≤ b))) H
def tieOk (n : Int) : List Int → Bool
  | [a, b, c] => (decide (0 ≤ b) && decide (b ≤ n - 1)) && ((decide (0 ≤ a) && decide (a ≤ b - 1)) && (decide (1 ≤ c) && decide (c ≤ 100)))
  | _ => false
theorem tieOk_eq (n a b c : Int) : tieOk n [a, b, c] = ((decide (0 ≤ b) && decide (b ≤ n - 1)) && ((decide (0 ≤ a) && decide (a ≤ b - 1)) && (decide (1 ≤ c) && decide (c ≤ 100)))) := rfl
theorem tieOk_three {n : Int} {t : List Int} (h : tieOk n t = true) : ∃ a b c, t = [a, b, c] ∧ 0 ≤ b ∧ b ≤ n - 1 ∧ 0 ≤ a ∧ a ≤ b - 1 ∧ 1 ≤ c ∧ c ≤ 100 := by
  unfold tieOk at h
  split at h
  · rename_i a b c
    simp only [Bool.and_eq_true, decide_eq_true_eq] at h
    obtain ⟨⟨h1, h2⟩, ⟨h3, h4⟩, h5, h6⟩ := h
    exact ⟨a, b, c, rfl, h1, h2, h3, h4, h5, h6⟩
  · cases h
def spTie : Sp := fun vs H Q _ => ∃ (a : Addr) (t : List Int) (n : Int), vs = [.ref a, .int n] ∧ H a = some (.tup (t.map .int)) ∧ Q (.bl (tieOk n t)) H
def tiesOk (n : Int) : List Int → List (List Int) → Bool
  | _, [] => true
  | b, t :: r => tieOk n t && (!HT.lexLe (t.take 2) b && tiesOk n (t.take 2) r)
def spTies (A : Er) : Sp := fun vs H Q E => ∃ (n : Int) (l : Addr) (xs : List V) (ts : List (List Int)), vs = [.int n, .ref l] ∧ H l = some (.lst xs) ∧ DatL H (ts.map tieD) xs ∧ WebIn n ts ∧
  (tiesOk n [-1, -1] ts = true → ∀ H', Same H H' → Q .non H') ∧ (tiesOk n [-1, -1] ts = false → ∀ H', Same H H' → E (.ref A.BadWeb) none H')
def webOk (n : Int) (ts : List (List Int)) : Bool := (decide (0 ≤ n) && decide (n ≤ 8)) && tiesOk n [-1, -1] ts
def spWeb (A : Er) : Sp := fun vs H Q E => ∃ (v : V) (n : Int) (ts : List (List Int)), vs = [v] ∧ Dat H (webD n ts) v ∧ WebIn n ts ∧
  (webOk n ts = true → ∀ H', Same H H' → Q .non H') ∧ (webOk n ts = false → ∀ H', Same H H' → E (.ref A.BadWeb) none H')
def keyI (ns : List Int) : List (Key × V) := ns.map fun k => (Sum.inl k, V.bl true)
def ordOk (n : Int) (ns : List Int) : Bool := decide ((ns.length : Int) = n) && (ns.all (fun k => decide (0 ≤ k) && decide (k ≤ n - 1)) && decide ns.Nodup)
def spOrd (A : Er) : Sp := fun vs H Q E => ∃ (n : Int) (l : Addr) (ns : List Int), vs = [.int n, .ref l] ∧ H l = some (.lst (ns.map .int)) ∧ small n ∧ OrdIn ns ∧
  (ordOk n ns = true → ∀ H', Same H H' → Q .non H') ∧ (ordOk n ns = false → ∀ H', Same H H' → E (.ref A.BadOrder) none H')
theorem keyI_val {ns : List Int} {k : Int} : (valV (keyI ns) (Sum.inl k)).isSome = decide (k ∈ ns) := by
  induction ns with
  | nil => rfl
  | cons a r ih =>
    unfold valV keyI at ih ⊢
    rw [List.map_cons, List.find?_cons]
    by_cases e : a = k
    · subst e
      simp
    · have e2 : decide ((Sum.inl a : Key) = Sum.inl k) = false := decide_eq_false fun z => e (Sum.inl.inj z)
      simp only [e2]
      rw [ih]
      have : (k ∈ a :: r) ↔ k ∈ r := by
        rw [List.mem_cons]
        exact ⟨fun h => h.resolve_left fun z => e z.symm, .inr⟩
      exact decide_eq_decide.mpr this.symm
theorem keyI_put {ns : List Int} {k : Int} (h : k ∉ ns) : putK (keyI ns) (Sum.inl k) (.bl true) = keyI (ns ++ [k]) := by
  have e : valV (keyI ns) (Sum.inl k) = none := by
    have q := keyI_val (ns := ns) (k := k)
    rw [decide_eq_false h] at q
    cases z : valV (keyI ns) (Sum.inl k) with
    | none => rfl
    | some x => rw [z] at q; cases q
  rw [putK_new _ e]
  unfold keyI
  rw [List.map_append]
  rfl
theorem nodup_len : ∀ {l m : List Int}, l.Nodup → (∀ x ∈ l, x ∈ m) → l.length ≤ m.length
  | [], _, _, _ => Nat.zero_le _
  | a :: r, m, h, s => by
    obtain ⟨h1, h2⟩ := List.nodup_cons.mp h
    have ha : a ∈ m := s a (List.mem_cons.mpr (.inl rfl))
    have q := nodup_len (m := m.erase a) h2 fun x hx => (List.mem_erase_of_ne fun z => h1 (by rw [← z]; exact hx)).mpr (s x (List.mem_cons.mpr (.inr hx)))
    rw [List.length_erase_of_mem ha] at q
    have : 0 < m.length := List.length_pos_of_mem ha
    rw [List.length_cons]
    omega
theorem ordOk_of {n : Int} {ns : List Int} (h : ordOk n ns = true) : (ns.length : Int) = n ∧ (∀ k ∈ ns, 0 ≤ k ∧ k ≤ n - 1) ∧ ns.Nodup := by
  unfold ordOk at h
  rw [Bool.and_eq_true, Bool.and_eq_true] at h
  obtain ⟨h1, h2, h3⟩ := h
  refine ⟨of_decide_eq_true h1, fun k hk => ?_, of_decide_eq_true h3⟩
  have := List.all_eq_true.mp h2 k hk
  rw [Bool.and_eq_true] at this
  exact ⟨of_decide_eq_true this.1, of_decide_eq_true this.2⟩
theorem ordOk_mk {n : Int} {ns : List Int} (h1 : (ns.length : Int) = n) (h2 : ∀ k ∈ ns, 0 ≤ k ∧ k ≤ n - 1) (h3 : ns.Nodup) : ordOk n ns = true := by
  unfold ordOk
  rw [decide_eq_true h1, decide_eq_true h3, Bool.true_and, Bool.and_true]
  exact List.all_eq_true.mpr fun k hk => by rw [decide_eq_true (h2 k hk).1, decide_eq_true (h2 k hk).2]; rfl
def upto (n : Nat) : List Int := (List.range n).map fun i : Nat => (i : Int)
theorem upto_mem {n : Nat} {k : Int} : k ∈ upto n ↔ 0 ≤ k ∧ k < n := by
  unfold upto
  rw [List.mem_map]
  constructor
  · rintro ⟨i, hi, rfl⟩
    have := List.mem_range.mp hi
    omega
  · rintro ⟨h1, h2⟩
    exact ⟨k.toNat, List.mem_range.mpr (by omega), by omega⟩
theorem upto_len {n : Nat} : (upto n).length = n := by unfold upto; rw [List.length_map, List.length_range]
theorem ord_all {n : Int} {ns : List Int} (h : ordOk n ns = true) {k : Int} (h0 : 0 ≤ k) (h1 : k ≤ n - 1) : k ∈ ns := by
  obtain ⟨hl, hk, hn⟩ := ordOk_of h
  by_cases c : k ∈ ns
  · exact c
  · have q := nodup_len (l := k :: ns) (m := upto ns.length) (List.nodup_cons.mpr ⟨c, hn⟩) fun x hx => by
      rcases List.mem_cons.mp hx with rfl | hx
      · exact upto_mem.mpr ⟨h0, by omega⟩
      · exact upto_mem.mpr ⟨(hk x hx).1, by have := (hk x hx).2; omega⟩
    rw [upto_len, List.length_cons] at q
    omega
theorem tiesOk_all {n : Int} : ∀ {ts : List (List Int)} {b : List Int}, tiesOk n b ts = true → ∀ t ∈ ts, tieOk n t = true
  | [], _, _, t, ht => by simp at ht
  | a :: r, b, h, t, ht => by
    unfold tiesOk at h
    rw [Bool.and_eq_true, Bool.and_eq_true] at h
    rcases List.mem_cons.mp ht with rfl | ht
    · exact h.1
    · exact tiesOk_all h.2.2 t ht
theorem webOk_of {n : Int} {ts : List (List Int)} (h : webOk n ts = true) : 0 ≤ n ∧ n ≤ 8 ∧ ∀ t ∈ ts, ∃ a b c, t = [a, b, c] ∧ 0 ≤ b ∧ b ≤ n - 1 ∧ 0 ≤ a ∧ a ≤ b - 1 ∧ 1 ≤ c ∧ c ≤ 100 := by
  unfold webOk at h
  rw [Bool.and_eq_true, Bool.and_eq_true] at h
  exact ⟨of_decide_eq_true h.1.1, of_decide_eq_true h.1.2, fun t ht => tieOk_three (tiesOk_all h.2 t ht)⟩
def idx (ns : List Int) (k : Int) : Nat := ns.idxOf k
theorem idx_lt {ns : List Int} {k : Int} (h : k ∈ ns) : idx ns k < ns.length := List.idxOf_lt_length_of_mem h
theorem idx_cons {a k : Int} {r : List Int} (e : ¬ a = k) : idx (a :: r) k = idx r k + 1 := by
  unfold idx
  rw [List.idxOf_cons]
  have : (a == k) = false := by simpa using e
  rw [this]
  rfl
def absI (d : Int) : Int := if d < 0 then -d else d
def tieLen (ns : List Int) : List Int → Int
  | [a, b, _] => absI ((idx ns a : Int) - (idx ns b : Int))
  | _ => 0
def lens (ns : List Int) (ts : List (List Int)) : List Int := ts.map (tieLen ns)
def spotsK (ns : List Int) : List (Key × V) := ns.zipIdx.map fun p => (Sum.inl p.1, V.int (p.2 : Nat))
theorem spotsK_snoc {ns : List Int} {k : Int} : spotsK (ns ++ [k]) = spotsK ns ++ [(Sum.inl k, V.int (ns.length : Nat))] := by
  unfold spotsK
  rw [List.zipIdx_append, List.map_append]
  simp
theorem spots_val_from {k : Int} : ∀ {ns : List Int} {j : Nat}, k ∈ ns → valV ((ns.zipIdx j).map fun p => ((Sum.inl p.1 : Key), V.int (p.2 : Nat))) (Sum.inl k) = some (.int ((j + idx ns k : Nat) : Int))
  | [], _, h => by simp at h
  | a :: r, j, h => by
    rw [List.zipIdx_cons, List.map_cons]
    unfold valV
    rw [List.find?_cons]
    by_cases e : a = k
    · subst e
      simp [idx]
    · have e2 : decide ((Sum.inl a : Key) = Sum.inl k) = false := decide_eq_false fun z => e (Sum.inl.inj z)
      have q := spots_val_from (j := j + 1) ((List.mem_cons.mp h).resolve_left fun z => e z.symm)
      unfold valV at q
      simp only [e2]
      rw [q]
      rw [idx_cons e]
      congr 2
      omega
theorem spots_val {ns : List Int} {k : Int} (h : k ∈ ns) : valV (spotsK ns) (Sum.inl k) = some (.int (idx ns k : Nat)) := by
  have q := spots_val_from (j := 0) h
  rw [Nat.zero_add] at q
  exact q
theorem spots_none {ns : List Int} {k : Int} (h : k ∉ ns) : valV (spotsK ns) (Sum.inl k) = none := by
  unfold valV spotsK
  rw [Option.map_eq_none_iff, List.find?_eq_none]
  intro p hp
  obtain ⟨⟨x, i⟩, hx, rfl⟩ := List.mem_map.mp hp
  have := List.fst_mem_of_mem_zipIdx hx
  intro z
  have z2 := of_decide_eq_true z
  cases z2
  exact h this
theorem spots_put {ns : List Int} {k : Int} (h : k ∉ ns) : putK (spotsK ns) (Sum.inl k) (.int (ns.length : Nat)) = spotsK (ns ++ [k]) := by
  rw [putK_new _ (spots_none h), spotsK_snoc]
theorem index_of {ns : List Int} {k : Int} (h : k ∈ ns) : (ns.map V.int).findIdx? (fun z => eqV z (.int k)) = some (idx ns k) := by
  induction ns with
  | nil => simp at h
  | cons a r ih =>
    rw [List.map_cons, List.findIdx?_cons]
    by_cases e : a = k
    · subst e
      have : eqV (.int a) (.int a) = true := by simp [eqV]
      rw [this]
      simp [idx]
    · have e2 : eqV (.int a) (.int k) = false := by simp [eqV, e]
      rw [e2, ih ((List.mem_cons.mp h).resolve_left fun z => e z.symm)]
      rw [idx_cons e]
      rfl
def over1 (ns : List Int) (g : Nat) : List Int → Int
  | [a, b, c] => if min (idx ns a) (idx ns b) ≤ g ∧ g < max (idx ns a) (idx ns b) then c else 0
  | _ => 0
def gapAt (ns : List Int) (ts : List (List Int)) (g : Nat) : Int := (ts.map (over1 ns g)).sum
def gapsL (m : Nat) (ns : List Int) (ts : List (List Int)) : List Int := (List.range m).map (gapAt ns ts)
theorem sum_add {α : Type} (f g : α → Int) : ∀ l : List α, (l.map fun x => f x + g x).sum = (l.map f).sum + (l.map g).sum
  | [] => rfl
  | a :: r => by
    simp only [List.map_cons, List.sum_cons]
    rw [sum_add f g r]
    omega
theorem sum_zero {α : Type} : ∀ l : List α, (l.map fun _ => (0 : Int)).sum = 0
  | [] => rfl
  | a :: r => by rw [List.map_cons, List.sum_cons, sum_zero r]; rfl
theorem sum_span {lo hi : Nat} {c : Int} (h : lo ≤ hi) : ∀ {m : Nat}, hi ≤ m → ((List.range m).map fun g => if lo ≤ g ∧ g < hi then c else 0).sum = c * ((hi : Int) - lo) := by
  have key : ∀ m : Nat, ((List.range m).map fun g => if lo ≤ g ∧ g < hi then c else 0).sum = c * ((min m hi - lo : Nat) : Int) := by
    intro m
    induction m with
    | zero => simp
    | succ m ih =>
      rw [List.range_succ, List.map_append, List.sum_append, ih]
      simp only [List.map_cons, List.map_nil, List.sum_cons, List.sum_nil, Int.add_zero]
      by_cases e : lo ≤ m ∧ m < hi
      · rw [if_pos e]
        have h1 : (min (m + 1) hi - lo : Nat) = (min m hi - lo : Nat) + 1 := by omega
        rw [h1, Int.natCast_add, Int.mul_add]
        simp
      · rw [if_neg e]
        have h1 : (min (m + 1) hi - lo : Nat) = (min m hi - lo : Nat) := by omega
        rw [h1, Int.add_zero]
  intro m hm
  rw [key m]
  have : ((min m hi - lo : Nat) : Int) = (hi : Int) - lo := by omega
  rw [this]
def weigh (ns : List Int) : List Int → Int
  | [a, b, c] => c * tieLen ns [a, b, c]
  | _ => 0
def tot (ns : List Int) (ts : List (List Int)) : Int := (ts.map (weigh ns)).sum
theorem over_sum {n : Int} {ns : List Int} {t : List Int} (ho : ordOk n ns = true) (ht : tieOk n t = true) : ((List.range (n - 1).toNat).map fun g => over1 ns g t).sum = weigh ns t := by
  obtain ⟨a, b, c, rfl, h1, h2, h3, h4, h5, h6⟩ := tieOk_three ht
  obtain ⟨hl, hk, hn⟩ := ordOk_of ho
  have ia := idx_lt (ord_all ho h3 (by omega))
  have ib := idx_lt (ord_all ho h1 h2)
  show ((List.range (n - 1).toNat).map fun g => if min (idx ns a) (idx ns b) ≤ g ∧ g < max (idx ns a) (idx ns b) then c else 0).sum = c * absI ((idx ns a : Int) - (idx ns b : Int))
  rw [sum_span (by omega) (by omega)]
  congr 1
  unfold absI
  split <;> omega
theorem gaps_sum {n : Int} {ns : List Int} (ho : ordOk n ns = true) : ∀ {ts : List (List Int)}, (∀ t ∈ ts, tieOk n t = true) → (gapsL (n - 1).toNat ns ts).sum = tot ns ts
  | [], _ => by
    unfold gapsL tot
    exact sum_zero _
  | t :: r, h => by
    have q := gaps_sum ho (ts := r) fun x hx => h x (List.mem_cons.mpr (.inr hx))
    have e : gapsL (n - 1).toNat ns (t :: r) = (List.range (n - 1).toNat).map fun g => over1 ns g t + gapAt ns r g := by
      unfold gapsL
      refine List.map_congr_left fun g _ => ?_
      unfold gapAt
      rw [List.map_cons, List.sum_cons]
    rw [e, sum_add, over_sum ho (h t (List.mem_cons.mpr (.inl rfl)))]
    unfold gapsL at q
    rw [q]
    unfold tot
    rw [List.map_cons, List.sum_cons]
theorem map_range_get {α β : Type} (f : α → β) (z : α) : ∀ ts : List α, (List.range ts.length).map (fun i => f (ts.getD i z)) = ts.map f := by
  intro ts
  apply List.ext_getElem
  · simp
  · intro i h1 h2
    have h3 : i < ts.length := by simpa using h2
    simp [List.getD_eq_getElem?_getD, List.getElem?_eq_getElem h3]
theorem lens_nonneg {ns : List Int} {ts : List (List Int)} : ∀ x ∈ lens ns ts, 0 ≤ x := by
  intro x hx
  obtain ⟨t, _, rfl⟩ := List.mem_map.mp hx
  unfold tieLen
  split
  · unfold absI
    split <;> omega
  · exact Int.le_refl 0
theorem lens_len {ns : List Int} {ts : List (List Int)} : (lens ns ts).length = ts.length := List.length_map _
def maxOf (ns : List Int) : Int := ns.foldr max 0
theorem isMax_of {ns : List Int} (h : ∀ x ∈ ns, 0 ≤ x) : IsMax 0 ns (maxOf ns) := by
  induction ns with
  | nil => exact .inl ⟨rfl, rfl⟩
  | cons a r ih =>
    right
    have ih2 := ih fun x hx => h x (List.mem_cons.mpr (.inr hx))
    have ha := h a (List.mem_cons.mpr (.inl rfl))
    show max a (maxOf r) ∈ a :: r ∧ ∀ x ∈ a :: r, x ≤ max a (maxOf r)
    rcases ih2 with ⟨rfl, e⟩ | ⟨m, l⟩
    · refine ⟨by rw [e]; simp; omega, fun x hx => ?_⟩
      have : x = a := by simpa using hx
      omega
    · constructor
      · by_cases c : a ≤ maxOf r
        · rw [Int.max_eq_right c]; exact List.mem_cons.mpr (.inr m)
        · rw [Int.max_eq_left (by omega)]; exact List.mem_cons.mpr (.inl rfl)
      · intro x hx
        rcases List.mem_cons.mp hx with rfl | hx
        · omega
        · have := l x hx; omega
theorem isMax_zero {ns : List Int} (h : ∀ x ∈ ns, 0 ≤ x) {M : Int} (q : IsMax 0 ([0] ++ ns) M) : M = maxOf ns := by
  refine q.uniq ?_
  right
  rcases isMax_of h with ⟨rfl, e⟩ | ⟨m, l⟩
  · rw [e]; simp
  · exact ⟨List.mem_append.mpr (.inr m), fun a ha => by
      rcases List.mem_append.mp ha with z | z
      · have : a = 0 := by simpa using z
        have := h _ m
        omega
      · exact l a z⟩
theorem gaps_nonneg {m : Nat} {n : Int} {ns : List Int} {ts : List (List Int)} (h : ∀ t ∈ ts, tieOk n t = true) : ∀ x ∈ gapsL m ns ts, 0 ≤ x := by
  intro x hx
  obtain ⟨g, _, rfl⟩ := List.mem_map.mp hx
  unfold gapAt
  have key : ∀ l : List Int, (∀ y ∈ l, 0 ≤ y) → 0 ≤ l.sum := by
    intro l
    induction l with
    | nil => intro _; exact Int.le_refl 0
    | cons a r ih =>
      intro q
      rw [List.sum_cons]
      have := ih fun y hy => q y (List.mem_cons.mpr (.inr hy))
      have := q a (List.mem_cons.mpr (.inl rfl))
      omega
  refine key _ fun y hy => ?_
  obtain ⟨t, ht, rfl⟩ := List.mem_map.mp hy
  obtain ⟨a, b, c, rfl, h1, h2, h3, h4, h5, h6⟩ := tieOk_three (h t ht)
  show 0 ≤ if min (idx ns a) (idx ns b) ≤ g ∧ g < max (idx ns a) (idx ns b) then c else 0
  split <;> omega
structure Both (A : Er) (H : Hp) (v : V) (l : Addr) (n : Int) (ts : List (List Int)) (ns : List Int) (E : XK) : Prop where
  web : Dat H (webD n ts) v
  ord : H l = some (.lst (ns.map .int))
  win : WebIn n ts
  oin : OrdIn ns
  ew : webOk n ts = false → ∀ H', Same H H' → E (.ref A.BadWeb) none H'
  eo : webOk n ts = true → ordOk n ns = false → ∀ H', Same H H' → E (.ref A.BadOrder) none H'
theorem Both.later {H H1 : Hp} {v : V} {l : Addr} {n : Int} {ts : List (List Int)} {ns : List Int} {E : XK} (b : Both A H v l n ts ns E) (e : Same H H1) : Both A H1 v l n ts ns E :=
  ⟨b.web.mono e, e _ _ b.ord, b.win, b.oin, fun h H' e' => b.ew h H' (e.trans e'), fun h1 h2 H' e' => b.eo h1 h2 H' (e.trans e')⟩
def spBoth (A : Er) : Sp := fun vs H Q E => ∃ (v : V) (l : Addr) (n : Int) (ts : List (List Int)) (ns : List Int), vs = [v, .ref l] ∧ Both A H v l n ts ns E ∧ (webOk n ts = true → ordOk n ns = true → ∀ H', Same H H' → Q .non H')
theorem spots_get {H : Hp} {p : Addr} {ns : List Int} {k : Int} (h : H p = some (.dK (spotsK ns))) (m : k ∈ ns) : DGet H p (.int k) (some (.int (idx ns k : Nat))) := by
  have z := DGet.k (k := Sum.inl k) h
  rw [spots_val m] at z
  exact z
def spSpots : Sp := fun vs H Q _ => ∃ (l : Addr) (ns : List Int), vs = [.ref l] ∧ H l = some (.lst (ns.map .int)) ∧ ns.Nodup ∧ ns.length ≤ 1000 ∧ ∀ p H', H p = none → Same H H' → H' p = some (.dK (spotsK ns)) → Q (.ref p) H'
def spLens (A : Er) : Sp := fun vs H Q E => ∃ (v : V) (l : Addr) (n : Int) (ts : List (List Int)) (ns : List Int), vs = [v, .ref l] ∧ Both A H v l n ts ns E ∧
  (webOk n ts = true → ordOk n ns = true → ∀ p H', H p = none → Same H H' → H' p = some (.lst ((lens ns ts).map .int)) → Q (.ref p) H')
theorem set_range {f f' : Nat → Int} {m k : Nat} {v : Int} (h1 : ∀ g, g ≠ k → f g = f' g) (h2 : f' k = v) : ((List.range m).map f).set k v = (List.range m).map f' := by
  apply List.ext_getElem
  · simp
  · intro i a b
    rw [List.getElem_set]
    simp only [List.getElem_map, List.getElem_range]
    by_cases e : k = i
    · rw [if_pos e, ← e, h2]
    · rw [if_neg e, h1 i fun z => e z.symm]
def spGaps (A : Er) : Sp := fun vs H Q E => ∃ (v : V) (l : Addr) (n : Int) (ts : List (List Int)) (ns : List Int), vs = [v, .ref l] ∧ Both A H v l n ts ns E ∧
  (webOk n ts = true → ordOk n ns = true → ∀ p H', H p = none → Same H H' → H' p = some (.lst ((gapsL (n - 1).toNat ns ts).map .int)) → Q (.ref p) H')
theorem gapAt_snoc {ns : List Int} {ts : List (List Int)} {t : List Int} {g : Nat} : gapAt ns (ts ++ [t]) g = gapAt ns ts g + over1 ns g t := by
  unfold gapAt
  rw [List.map_append, List.sum_append]
  simp
def spNum (A : Er) (f : Int → List Int → List (List Int) → Int) : Sp := fun vs H Q E => ∃ (v : V) (l : Addr) (n : Int) (ts : List (List Int)) (ns : List Int), vs = [v, .ref l] ∧ Both A H v l n ts ns E ∧
  (webOk n ts = true → ordOk n ns = true → ∀ H', Same H H' → Q (.int (f n ns ts)) H')
def longF (_ : Int) (ns : List Int) (ts : List (List Int)) : Int := maxOf (lens ns ts)
def mostF (n : Int) (ns : List Int) (ts : List (List Int)) : Int := maxOf (gapsL (n - 1).toNat ns ts)
def totF (_ : Int) (ns : List Int) (ts : List (List Int)) : Int := tot ns ts
theorem ite_str {a b : Str} {X Y : Prop} (h1 : a = b → X) (h2 : a ≠ b → Y) : if decide (V.str a = V.str b) = true then X else Y := by
  by_cases c : a = b
  · rw [decide_eq_true (congrArg V.str c)]
    exact iteT (h1 c)
  · rw [decide_eq_false fun z => c (V.str.inj z)]
    exact iteF (h2 c)
def spWhole : Sp := fun vs H Q _ => ∃ x, vs = [x] ∧ ((∃ i, x = .int i ∧ Q (.bl true) H) ∨ ∃ a xs, x = .ref a ∧ H a = some (.tup xs) ∧ Q (.bl false) H)
def isKind (kd : Str) : Prop := kd = "longest" ∨ kd = "most" ∨ kd = "total"
instance {kd : Str} : Decidable (isKind kd) := by unfold isKind; infer_instance
def cellI (ns : List Int) (k : Int) : Int := if ns = [] then 0 else ns.getD (k % (ns.length : Int)).toNat 0
def mixI (ns : List Int) (k : Int) : Int := (((cellI ns k + 104729 * (k + 1)) % 4294967291 * 48271 % 4294967279) / 64 * 69621 + (cellI ns k + 104729 * (k + 1)) % 4294967291 * 48271 % 4294967279) % 4294967231
theorem mixI_nonneg (ns : List Int) (k : Int) : 0 ≤ mixI ns k := Int.emod_nonneg _ (by decide)
theorem cell_at {ns : List Int} (h : ns ≠ []) (i : Int) : atI (ns.map V.int) (i % ((ns.map V.int).length : Int)) = some (.int (cellI ns i)) := by
  rw [List.length_map]
  have hl : 0 < ns.length := List.length_pos_iff.mpr h
  have h0 : 0 ≤ i % (ns.length : Int) := Int.emod_nonneg _ (by omega)
  have h1 : i % (ns.length : Int) < ns.length := Int.emod_lt_of_pos _ (by omega)
  have e : i % (ns.length : Int) = (((i % (ns.length : Int)).toNat : Nat) : Int) := by omega
  unfold cellI
  rw [if_neg h]
  have hj : (i % (ns.length : Int)).toNat < ns.length := by omega
  generalize (i % (ns.length : Int)).toNat = j at e hj ⊢
  rw [e]
  apply atI_nat
  rw [List.getElem?_map, List.getD_eq_getElem?_getD, List.getElem?_eq_getElem hj]
  rfl
def spCell (K : PySem.W.Frag) : Sp := fun vs H Q _ => ∃ (a : Addr) (ns : List Int) (k : Int), vs = [.ref a, .int k] ∧ SqL K H a (ns.map .int) ∧ Q (.int (cellI ns k)) H
def spMix (K : PySem.W.Frag) : Sp := fun vs H Q _ => ∃ (a : Addr) (ns : List Int) (k : Int), vs = [.ref a, .int k] ∧ SqL K H a (ns.map .int) ∧ Q (.int (mixI ns k)) H
theorem tiesOk_snoc {n : Int} {t : List Int} (h1 : tieOk n t = true) : ∀ {ts : List (List Int)} {b : List Int}, tiesOk n b ts = true → HT.lexLe (t.take 2) b = false → (∀ s ∈ ts, HT.lexLe (t.take 2) (s.take 2) = false) → tiesOk n b (ts ++ [t]) = true
  | [], b, _, h2, _ => by
    show tiesOk n b [t] = true
    unfold tiesOk
    rw [h1, h2]
    rfl
  | s :: r, b, h, h2, h3 => by
    unfold tiesOk at h
    rw [Bool.and_eq_true, Bool.and_eq_true] at h
    rw [List.cons_append]
    unfold tiesOk
    rw [h.1, h.2.1, tiesOk_snoc h1 h.2.2 (h3 s List.mem_cons_self) fun x hx => h3 x (List.mem_cons_of_mem _ hx)]
    rfl
theorem lexLe2 {a b c d : Int} : HT.lexLe [a, b] [c, d] = decide (a < c ∨ a = c ∧ b ≤ d) := by
  rw [HT.lexLe_cons, HT.lexLe_cons]
  by_cases e : a = c
  · rw [if_pos e]
    by_cases e2 : b = d
    · rw [if_pos e2, HT.lexLe_nil_nil]; exact (decide_eq_true (by omega)).symm
    · rw [if_neg e2]; exact decide_eq_decide.mpr (by omega)
  · rw [if_neg e]; exact decide_eq_decide.mpr (by omega)
structure TW (n i j : Int) (ts : List (List Int)) : Prop where
  ok : tiesOk n [-1, -1] ts = true
  lt : ∀ s ∈ ts, ∃ a b c, s = [a, b, c] ∧ (a < i ∨ a = i ∧ b < j)
theorem TW.later {n i j i' j' : Int} {ts : List (List Int)} (h : TW n i j ts) (e : i < i' ∨ i = i' ∧ j ≤ j') : TW n i' j' ts :=
  ⟨h.ok, fun s hs => by
    obtain ⟨a, b, c, h1, h2⟩ := h.lt s hs
    exact ⟨a, b, c, h1, by omega⟩⟩
theorem TW.add {n i j w : Int} {ts : List (List Int)} (h : TW n i j ts) (h0 : 0 ≤ i) (h1 : i < j) (h2 : j < n) (h3 : 1 ≤ w) (h4 : w ≤ 100) : TW n i (j + 1) (ts ++ [[i, j, w]]) := by
  refine ⟨tiesOk_snoc ?_ h.ok ?_ fun s hs => ?_, fun s hs => ?_⟩
  · rw [tieOk_eq]
    simp only [Bool.and_eq_true, decide_eq_true_eq]
    omega
  · show HT.lexLe [i, j] [-1, -1] = false
    rw [lexLe2]
    exact decide_eq_false (by omega)
  · obtain ⟨a, b, c, rfl, e⟩ := h.lt s hs
    show HT.lexLe [i, j] [a, b] = false
    rw [lexLe2]
    exact decide_eq_false (by omega)
  · rcases List.mem_append.mp hs with z | z
    · obtain ⟨a, b, c, e1, e2⟩ := h.lt s z
      exact ⟨a, b, c, e1, by omega⟩
    · exact ⟨i, j, w, by simpa using z, by omega⟩
theorem TW.nil {n : Int} : TW n 0 0 [] := ⟨rfl, fun s hs => by simp at hs⟩
theorem weights_at {i : Int} (h0 : 0 ≤ i) (h1 : i < 6) : ∃ w : Int, atI [V.int 1, V.int 1, V.int 2, V.int 3, V.int 7, V.int 100] i = some (.int w) ∧ 1 ≤ w ∧ w ≤ 100 := by
  have : i = 0 ∨ i = 1 ∨ i = 2 ∨ i = 3 ∨ i = 4 ∨ i = 5 := by omega
  rcases this with rfl | rfl | rfl | rfl | rfl | rfl
  · exact ⟨1, rfl, by decide, by decide⟩
  · exact ⟨1, rfl, by decide, by decide⟩
  · exact ⟨2, rfl, by decide, by decide⟩
  · exact ⟨3, rfl, by decide, by decide⟩
  · exact ⟨7, rfl, by decide, by decide⟩
  · exact ⟨100, rfl, by decide, by decide⟩
theorem webIn_of {n : Int} {ts : List (List Int)} (h : webOk n ts = true) (hl : ts.length ≤ 1000) : WebIn n ts := by
  obtain ⟨h0, h8, ht⟩ := webOk_of h
  refine ⟨by unfold small; omega, hl, fun t hm => ?_⟩
  obtain ⟨a, b, c, rfl, _⟩ := ht t hm
  refine ⟨by show 3 ≤ 100; decide, fun k hk => ?_⟩
  unfold small
  simp only [List.mem_cons, List.not_mem_nil, or_false] at hk
  rcases hk with rfl | rfl | rfl <;> omega
def spLWeb (K : PySem.W.Frag) : Sp := fun vs H Q _ => ∃ (a : Addr) (ns : List Int) (k m : Int), vs = [.ref a, .int k, .int m] ∧ SqL K H a (ns.map .int) ∧ 0 ≤ m ∧ m ≤ 8 ∧
  ∀ v H' n ts, Same H H' → Dat H' (webD n ts) v → webOk n ts = true → WebIn n ts → n ≤ m → ts.length ≤ 64 → Q v H'
theorem ordOk_perm {n : Nat} {os : List Int} (h : os.Perm (upto n)) : ordOk n os = true := by
  refine ordOk_mk (by rw [h.length_eq, upto_len]) (fun k hk => ?_) (h.nodup_iff.mpr ?_)
  · have := upto_mem.mp (h.mem_iff.mp hk)
    omega
  · unfold upto List.Nodup
    rw [List.pairwise_map]
    exact (List.pairwise_lt_range (n := n)).imp fun {a b} h => by omega
def spLOrd (K : PySem.W.Frag) : Sp := fun vs H Q _ => ∃ (a : Addr) (ns : List Int) (k m : Int), vs = [.ref a, .int k, .int m] ∧ SqL K H a (ns.map .int) ∧ 0 ≤ m ∧ m ≤ 8 ∧
  ∀ l H' os, H l = none → Same H H' → H' l = some (.lst (os.map .int)) → ordOk m os = true → OrdIn os → Q (.ref l) H'
theorem ordIn_of {n : Int} {os : List Int} (h : ordOk n os = true) (hn : n ≤ 8) : OrdIn os := by
  obtain ⟨h1, h2, h3⟩ := ordOk_of h
  exact ⟨by omega, fun k hk => by have := h2 k hk; unfold small; omega⟩
def spLLens : Sp := fun vs H Q _ => ∃ (v : V) (l : Addr) (n : Int) (ts : List (List Int)) (os : List Int), vs = [v, .ref l] ∧ Dat H (webD n ts) v ∧ H l = some (.lst (os.map .int)) ∧ webOk n ts = true ∧ WebIn n ts ∧ ordOk n os = true ∧
  ∀ p H', H p = none → Same H H' → H' p = some (.lst ((lens os ts).map .int)) → Q (.ref p) H'
def spLGaps : Sp := fun vs H Q _ => ∃ (v : V) (l : Addr) (n : Int) (ts : List (List Int)) (os : List Int), vs = [v, .ref l] ∧ Dat H (webD n ts) v ∧ H l = some (.lst (os.map .int)) ∧ webOk n ts = true ∧ WebIn n ts ∧ ordOk n os = true ∧
  ∀ p H', H p = none → Same H H' → H' p = some (.lst ((gapsL (n - 1).toNat os ts).map .int)) → Q (.ref p) H'
theorem flat_ints (ns : List Int) : (ns.map V.int).all flatV = true := List.all_eq_true.mpr fun x hx => by
  obtain ⟨i, _, rfl⟩ := List.mem_map.mp hx
  rfl
theorem sorted2 {a b : Nat} {ms : List Int} (hp : ms.Perm [(a : Int), (b : Int)]) (hs : ms.Pairwise (· ≤ ·)) : ms = [((min a b : Nat) : Int), ((max a b : Nat) : Int)] := by
  have hl := hp.length_eq
  match ms, hl with
  | [x, y], _ =>
    have h1 : x ≤ y := by
      have := List.pairwise_cons.mp hs
      exact this.1 y (by simp)
    have hx : x ∈ [(a : Int), (b : Int)] := hp.mem_iff.mp (by simp)
    have : x = a ∨ x = b := by simpa using hx
    have hy : (x = a ∧ y = b) ∨ (x = b ∧ y = a) := by
      rcases this with rfl | rfl
      · have := (List.singleton_perm_singleton.mp hp.cons_inv)
        exact .inl ⟨rfl, this⟩
      · have := (List.singleton_perm_singleton.mp (hp.trans (List.Perm.swap _ _ _)).cons_inv)
        exact .inr ⟨rfl, this⟩
    have e1 : x = ((min a b : Nat) : Int) := by omega
    have e2 : y = ((max a b : Nat) : Int) := by omega
    rw [e1, e2]
theorem perm_erase {α : Type} : ∀ {l : List α} {i : Nat} (h : i < l.length), (l[i] :: l.eraseIdx i).Perm l
  | [], i, h => by simp at h
  | a :: r, 0, h => List.Perm.refl _
  | a :: r, i + 1, h => by
    have h2 : i < r.length := by simpa using h
    show (r[i] :: a :: r.eraseIdx i).Perm (a :: r)
    exact (List.Perm.swap a r[i] _).trans ((perm_erase h2).cons a)
theorem map_erase {α β : Type} (f : α → β) : ∀ (l : List α) (i : Nat), (l.map f).eraseIdx i = (l.eraseIdx i).map f
  | [], _ => rfl
  | _ :: _, 0 => rfl
  | a :: r, i + 1 => by
    show f a :: (r.map f).eraseIdx i = f a :: (r.eraseIdx i).map f
    rw [map_erase f r i]
def refWord (A : Er) (C : Addr) (x : Str) : Prop := (C = A.BadKind ∧ x = "kind") ∨ (C = A.BadOrder ∧ x = "order") ∨ (C = A.BadSpot ∧ x = "spot") ∨ (C = A.BadText ∧ x = "text") ∨ (C = A.BadWeb ∧ x = "web")
def spRef (A : Er) : Sp := fun vs H Q _ => ∃ x, vs = [x] ∧ ((x = .non ∧ Q (.str "ok") H) ∨ ∃ a C y, x = .ref a ∧ H a = some (excO a C) ∧ refWord A C y ∧ ∀ H', Same H H' → Q (.str y) H')
theorem iteDT {c X Y : Prop} [Decidable c] (hc : c) (h : X) : if decide c = true then X else Y := by rw [decide_eq_true hc]; exact iteT h
theorem iteDF {c X Y : Prop} [Decidable c] (hc : ¬ c) (h : Y) : if decide c = true then X else Y := by rw [decide_eq_false hc]; exact iteF h
theorem seq_nat {n : Nat} {i : Int} (h0 : 0 ≤ i) (h1 : i < n) : seqIndex? i n = some i.toNat := (ixN_seq (by unfold ixN; rw [if_pos h0, if_pos h1])).1
theorem refWord.web {A : Er} : refWord A A.BadWeb "web" := .inr (.inr (.inr (.inr ⟨rfl, rfl⟩)))
theorem refWord.order {A : Er} : refWord A A.BadOrder "order" := .inr (.inl ⟨rfl, rfl⟩)
theorem refWord.kind {A : Er} : refWord A A.BadKind "kind" := .inl ⟨rfl, rfl⟩
theorem refWord.spot {A : Er} : refWord A A.BadSpot "spot" := .inr (.inr (.inl ⟨rfl, rfl⟩))
theorem refWord.text {A : Er} : refWord A A.BadText "text" := .inr (.inr (.inr (.inl ⟨rfl, rfl⟩)))
def Told (A : Er) (H : Hp) (Q : VK) : XK := fun Cv _ H1 => ∃ y C, Same H H1 ∧ Cv = .ref C ∧ refWord A C y ∧ ∀ H', Same H1 H' → Q (.str y) H'
theorem cut_take {xs : List V} {k : Nat} : cutV xs none (some (k : Int)) = xs.take k := by
  unfold cutV
  rw [HT.sIx_none, HT.sIx_nat, Nat.sub_zero, List.drop_zero]
  rw [List.take_eq_take_iff]
  omega
theorem cut_drop {xs : List V} {k : Nat} : cutV xs (some (k : Int)) none = xs.drop k := by
  unfold cutV
  rw [HT.sIx_none, HT.sIx_nat]
  rw [List.take_of_length_le (by rw [List.length_drop]; omega)]
  by_cases c : k ≤ xs.length
  · rw [Nat.min_eq_left c]
  · rw [Nat.min_eq_right (by omega), List.drop_length, List.drop_of_length_le (by omega)]
theorem lay_ints (ns : List Int) : PyData.canLayAll0 (ns.map .int) = true := by
  induction ns with
  | nil => rfl
  | cons a r ih => show (PyData.canLay0 (.int a) && PyData.canLayAll0 (r.map .int)) = true; rw [ih]; rfl
theorem depth_ints (ns : List Int) : PyData.depthAll (ns.map .int) = 0 := by
  induction ns with
  | nil => rfl
  | cons a r ih => show max (PyData.depth (.int a)) (PyData.depthAll (r.map .int)) = 0; rw [ih]; rfl
theorem ite_ne_same {d : PyData} {X Y : Prop} (hc : d.canLay0 = true) (h : Y) : if (if true = true then !PyData.eqv d d else PyData.eqv d d) = true then X else Y := by
  rw [if_pos (rfl : true = true), SeqAt.eqv_refl d hc]; exact iteF h
theorem new_pair {H : Hp} {p : Addr} {o : HO} (h : H p = none) : Same H (upd H p o) ∧ upd H p o p = some o := ⟨same_new h, upd_same⟩
end My
set_option Elab.async false
set_option linter.all false
set_option maxRecDepth 100000
set_option maxHeartbeats 4000000
namespace PySem.F
theorem nolen_lri : typeLookup (.type "list_reverseiterator") "__len__" = pure none := by rw [typeLookup_type, builtinLookup_eq_fast]; kernel_rfl
theorem hint_lri : typeLookup (.type "list_reverseiterator") "__length_hint__" = pure (some (.builtin "list_reverseiterator.__length_hint__")) := by rw [typeLookup_type, builtinLookup_eq_fast]; kernel_rfl
end PySem.F
namespace L2
open PySem PySem.Spec PyProof.Rows
section
variable {prog : Program} {w : World} {A : Around} {E : Value → Shared → Prop} {s : Shared}
theorem extend_rev {R : Result → Shared → Prop} {D a : Addr} {items : Array Value} (hh : A.handled = none) (hit : s.heap.IsRevIter D a ((items.size : Int) - 1)) (hl : s.heap.IsList a items) (hne : a ≠ D) (hz : items.size ≤ sizeLine) (S : Addr) (hSD : S ≠ D) (hSa : S ≠ a) (res : Value) (c₀ : Nat)
    (hS : s.heap.get? S = some { cls := .type "list", data := .seq #[] c₀ })
    (hR : ∀ h' tk acc' c', (∀ b o, b ≠ S → b ≠ D → s.heap.get? b = some o → h'.get? b = some o) → h'.get? S = some { cls := .type "list", dict := none, data := .seq acc' c', slots := #[] } →
      ItemsOf (fun i v => items[items.size - 1 - i]? = some v) acc' items.size → R (.ok (.ret res)) { s with heap := h', toks := tk }) :
    wpAny (model prog w) A.in1 (Builtin.List.listExtendWith (.ref S) (.ref D) res)
      (fun fin s' => match fin with | .done f => R (.ok f) s' | .again c' => c'.quiet = true ∧ codeAny (model prog w) A c' R s') (fun e s' => R (.error e) s') s := by
  have W := (Walks.listRev (prog := prog) (w := w) (A := A.in1) hh D a hne items).toS
  have hSf : S ∉ [D, a] := by simp only [List.mem_cons, List.not_mem_nil, or_false, not_or]; exact ⟨hSD, hSa⟩
  have hT : s.TypeIs (.ref D) "list_reverseiterator" := by obtain ⟨o, h1, h2, _⟩ := hit; exact ⟨o, h1, h2⟩
  have h1 : Builtin.List.listSameRef (.ref S) (.ref D) = false := by simp [Builtin.List.listSameRef, hSD]
  have h2 : (Value.type "list_reverseiterator" == Value.type "list") = false := by decide
  have h3 : (Value.type "list_reverseiterator" == Value.type "tuple") = false := by decide
  unfold Builtin.List.listExtendWith
  refine wpAny_bind (wpAny_typeOf hT ?_)
  simp only [h1, h2, h3, Bool.or_false, Bool.false_eq_true, if_false]
  refine wpAny_bind (wpAny_pyIter_revIter hit ?_)
  refine wpAny_bind (wpAny_holding ?_)
  unfold Builtin.List.listLengthHint
  refine wpAny_bind (wpAny_specialOf hT PySem.F.nolen_lri ?_)
  show wpAny _ A.in1 (specialOf (Value.ref D) (Str.ofString "__length_hint__") >>= _) _ _ _
  refine wpAny_bind (wpAny_specialOf hT PySem.F.hint_lri ?_)
  (generalize hid : ("list_reverseiterator.__length_hint__" : String) = id0; (fail_if_success (clear hid id0)); wp_delta; rw [show splitId id0 = some ("list_reverseiterator", "__length_hint__") from by subst hid; decide +kernel]; subst hid)
  refine wpAny_bind (wpAny_isInstance (b := true) hT (by rw [isSubtype_type]; kernel_rfl) ?_)
  refine wpAny_pure ?_
  rw [if_neg (by decide)]
  have st0 : (0 : Nat) ≤ items.size ∧ s.heap.IsRevIter D a ((items.size : Int) - 1 - ((0 : Nat) : Int)) ∧ s.heap.IsList a items := ⟨Nat.zero_le _, by simpa using hit, hl⟩
  refine wpAny_pure ⟨plainId_quiet PySem.F.plain_extend_loop _, codeAny_extend_loopS W hz _ hSf _ items.size 0 _ _ _ rfl (Nat.zero_le _) st0 hS (ItemsOf.nil _) fun s' acc' c' hm hS' hacc => ?_⟩
  rw [Moved.eq_with hm]
  exact hR s'.heap s'.toks acc' c' (fun b o hb hd e => hm.heap b o (fun hmem => by
    rcases List.mem_cons.mp hmem with z | z
    · exact hb z
    · exact hd (List.mem_singleton.mp z)) e) hS' hacc
theorem list_init_rev {R : Result → Shared → Prop} {D a : Addr} {items : Array Value} (hh : A.handled = none) (hit : s.heap.IsRevIter D a ((items.size : Int) - 1)) (hl : s.heap.IsList a items) (hne : a ≠ D) (hz : items.size ≤ sizeLine) (S : Addr) (hSD : S ≠ D) (hSa : S ≠ a)
    (hS : s.heap.get? S = some { cls := .type "list", data := .seq #[] })
    (hR : ∀ h' tk acc' c', (∀ b o, b ≠ S → b ≠ D → s.heap.get? b = some o → h'.get? b = some o) → h'.get? S = some { cls := .type "list", dict := none, data := .seq acc' c', slots := #[] } →
      ItemsOf (fun i v => items[items.size - 1 - i]? = some v) acc' items.size → R (.ok (.ret .none)) { s with heap := h', toks := tk }) :
    wpAny (model prog w) A.in1 (Builtin.«list.__init__» ⟨[.ref S, .ref D], []⟩)
      (fun fin s' => match fin with | .done f => R (.ok f) s' | .again c' => c'.quiet = true ∧ codeAny (model prog w) A c' R s') (fun e s' => R (.error e) s') s := by
  show wpAny _ _ (do let old ← Builtin.List.listItems (.ref S); Builtin.List.listUpdate (.ref S) (fun _ => #[]); letGo old.toList.reverse; Builtin.List.listExtendWith (.ref S) (.ref D) .none) _ _ s
  refine wpAny_bind ?_
  unfold Builtin.List.listItems
  refine wpAny_bind (wpAny_seqItems hS rfl (wpAny_pure ?_))
  show wpAny _ _ (updateSeq S (fun _ => #[]) >>= fun _ => letGo (#[] : Array Value).toList.reverse >>= fun _ => Builtin.List.listExtendWith (.ref S) (.ref D) .none) _ _ s
  refine wpAny_bind (wpAny_updateSeq hS rfl ?_)
  have hS2 := Heap.get?_update_self (Obj.mapSeq (fun _ => (#[] : Array Value))) hS rfl
  have oth : ∀ b o, b ≠ S → s.heap.get? b = some o → (s.heap.update S (Obj.mapSeq (fun _ => (#[] : Array Value)))).get? b = some o :=
    fun b o hb e => (Heap.get?_update_other _ _ (Ne.symm hb)).trans e
  refine wpAny_bind (wpAny_letGo ?_)
  refine extend_rev hh (hit.at fun o e => oth D o (Ne.symm hSD) e) (hl.at fun o e => oth a o (Ne.symm hSa) e) hne hz S hSD hSa .none _ hS2 fun h' tk acc' c' hk hS' hacc => ?_
  exact hR h' tk acc' c' (fun b o hb hd e => hk b o hb hd (oth b o hb e)) hS' hacc
theorem call_list_rev {Q : Value → Shared → Prop} {D a : Addr} {items : Array Value} (hh : A.handled = none) (hit : s.heap.IsRevIter D a ((items.size : Int) - 1)) (hl : s.heap.IsList a items) (hne : a ≠ D) (hz : items.size ≤ sizeLine)
    (hQ : ∀ h' tk acc' c', (∀ b o, b ≠ D → s.heap.get? b = some o → h'.get? b = some o) →
      h'.get? s.heap.objs.size = some { cls := .type "list", dict := none, data := .seq acc' c', slots := #[] } → ItemsOf (fun i v => items[items.size - 1 - i]? = some v) acc' items.size → Q (.ref s.heap.objs.size) { s with heap := h', toks := tk }) :
    wpAny (model prog w) A (call (.type "list") [.ref D]) Q E s := by
  refine callType_codes (Q₁ := fun obj s₁ => obj = .ref s.heap.objs.size ∧ s₁ = { s with heap := s.heap.push { cls := .type "list", data := .seq #[] } }) PySem.F.called_list (PySem.F.typeCall_list_1 _) PySem.F.entry_list_init
    (code_list_new _ ⟨rfl, rfl⟩) fun obj s₁ h₁ => ?_
  obtain ⟨rfl, rfl⟩ := h₁
  have hS : (s.heap.push { cls := .type "list", data := .seq #[] }).get? s.heap.objs.size = some { cls := .type "list", data := .seq #[] } := Heap.get?_push_size _ rfl
  have lD : D < s.heap.objs.size := by obtain ⟨o, h1, _⟩ := hit; exact Heap.lt_size h1
  have la : a < s.heap.objs.size := by obtain ⟨o, h1, _⟩ := hl; exact Heap.lt_size h1
  refine ⟨⟨_, hS, rfl⟩, PySem.F.args_list_init_2 _ _, list_init_rev (A := A.in1) hh (hit.at fun o e => Heap.get?_push_of_some _ e) (hl.at fun o e => Heap.get?_push_of_some _ e) hne hz _ (Nat.ne_of_gt lD) (Nat.ne_of_gt la) hS fun h' tk acc' c' hk hS' hacc => ?_⟩
  exact ⟨rfl, hQ h' tk acc' c' (fun b o hd e => hk b o (Nat.ne_of_lt (Heap.lt_size e)) hd (Heap.get?_push_of_some _ e)) hS' hacc⟩
end
section
variable {X : Cx}
def tLRev (K : PySem.W.Frag) (te : TE) : TE := fun σ H Q => te σ H fun x H1 => ∃ a xs, x = .ref a ∧ SqL K H1 a xs ∧ ∀ l, H1 l = none → Q (.ref l) (upd H1 l (.lst xs.reverse))
theorem pe_lrev {e : Expr} {te : TE} {p p2 c1 c2 : Pos} (hc : X.calm = true) (hg : Gl X "list") (hm : X.mg "list" = none) (hg2 : Gl X "reversed") (hm2 : X.mg "reversed" = none) (he : PE X e te)
    (hs : starEach [.Call (.Name "reversed" p2) [e] [] c2] X.env = [(false, eval (.Call (.Name "reversed" p2) [e] [] c2) X.env)] := by rfl) (hs2 : starEach [e] X.env = (false, eval e X.env) :: starEach [] X.env := by rfl) :
    PE X (.Call (.Name "list" p) [.Call (.Name "reversed" p2) [e] [] c2] [] c1) (tLRev X.K te) := by
  intro pins s σ H Q I h
  refine Call_ (ld_blt I hg hm bt_list (PyProof.Rows.callWith_type1 ?_ hs rfl))
  rw [hs]
  show wpAny _ _ (spliced ((false, eval (.Call (.Name "reversed" p2) [e] [] c2) X.env) :: backTo c1 (starEach [] X.env))) _ _ s
  refine Calls.spliced_cons ?_
  refine Call_ (ld_blt I hg2 hm2 boot_reversed (PyProof.Rows.callWith_type1 (thn ((pa_cons he pa_nil hs2) c2 pins s σ H (fun vs H1 => match vs with | [x] => ∃ a xs, x = .ref a ∧ SqL X.K H1 a xs ∧ ∀ l, H1 l = none → Q (.ref l) (upd H1 l (.lst xs.reverse)) | _ => False) I h) fun us s1 ⟨vs, H1, I1, r1, q1⟩ => ?_) hs2 rfl))
  match vs, q1 with
  | [x], ⟨a, xs, e1, hq, q⟩ =>
    subst e1
    obtain ⟨u, rfl, ru⟩ := vals1 r1
    cases ru
    obtain ⟨its, rv, pl, hz⟩ := I1.list hq
    refine call_reversed_list pl.isList ?_
    refine Calls.spliced_nil ?_
    have hl := rv.length
    have kk : ∀ b o, s1.heap.get? b = some o → (s1.heap.push (revObj a ((its.toArray.size : Int) - 1))).get? b = some o := fun b o z => Heap.get?_push_of_some _ z
    have la : a < s1.heap.objs.size := by obtain ⟨o, n, z, _⟩ := pl; exact Heap.lt_size z
    have hit : (s1.heap.push (revObj a ((its.toArray.size : Int) - 1))).IsRevIter s1.heap.objs.size a ((its.toArray.size : Int) - 1) := ⟨_, Heap.get?_push_size _ rfl, rfl, rfl⟩
    refine call_list_rev (s := { s1 with heap := s1.heap.push (revObj a ((its.toArray.size : Int) - 1)) }) (I1.ok.hd hc) hit (pl.isList.at fun o z => kk a o z) (Nat.ne_of_lt la) (by rw [List.size_toArray, ← hl]; exact hz) fun h' tk acc' c' hk hS hacc => ?_
    have fr : H1 (s1.heap.push (revObj a ((its.toArray.size : Int) - 1))).objs.size = none := I1.hok.fresh (by rw [Heap.size_push]; exact Nat.le_succ _)
    refine ⟨.ref _, upd H1 _ (.lst xs.reverse), I1.laid (t' := tk) (fun b o z => hk b o (Nat.ne_of_lt (Heap.lt_size z)) (kk b o z)) (by rw [Heap.size_push]; exact Nat.le_succ _) ⟨by rw [List.length_reverse]; exact hz, acc'.toList, c', ?_, by simpa using hS⟩, rfl, q _ fr⟩
    have hsz : its.toArray.size = its.length := by simp
    refine vals_of ?_ fun i x w' e1 e2 => ?_
    · have z1 := hacc.1
      have z2 : acc'.toList.length = acc'.size := Array.length_toList
      have z3 : xs.reverse.length = xs.length := List.length_reverse
      omega
    · have hi : i < xs.length := by
        have := (List.getElem?_eq_some_iff.mp e1).1
        rwa [List.length_reverse] at this
      have z := hacc.2 i w' (by rw [← Array.getElem?_toList]; exact e2)
      rw [List.getElem?_reverse hi] at e1
      obtain ⟨u', hu', ru'⟩ := rv.get e1
      rw [hsz, ← hl] at z
      have z' : its[xs.length - 1 - i]? = some w' := by simpa using z
      rw [hu'] at z'
      cases z'
      exact ru'
end
end L2
set_option Elab.async false
set_option linter.all false
set_option maxRecDepth 100000
set_option maxHeartbeats 4000000
namespace My
open PySem L2 PySem.Spec PyProof.Rows
def swapL (ns : List Int) (i j : Nat) : List Int := (ns.set i (ns.getD j 0)).set j (ns.getD i 0)
def moveL (ns : List Int) (i j : Nat) : List Int := ((ns.take i ++ ns.drop (i + 1)).take j ++ [ns.getD i 0]) ++ (ns.take i ++ ns.drop (i + 1)).drop j
def turnL (ns : List Int) (i j : Nat) : List Int := (ns.take (min i j) ++ ((ns.drop (min i j)).take (max i j + 1 - min i j)).reverse) ++ ns.drop (max i j + 1)
def deedL (w : Int) (ns : List Int) (i j : Nat) : List Int := if w = 0 then swapL ns i j else if w = 1 then moveL ns i j else turnL ns i j
def inR (ns : List Int) (i j : Int) : Prop := (0 ≤ i ∧ i < ns.length) ∧ 0 ≤ j ∧ j < ns.length
instance {ns : List Int} {i j : Int} : Decidable (inR ns i j) := by unfold inR; infer_instance
theorem getD_at {ns : List Int} {i : Nat} (h : i < ns.length) : ns.getD i 0 = ns[i] := by rw [List.getD_eq_getElem?_getD, List.getElem?_eq_getElem h]; rfl
theorem swapL_perm {ns : List Int} {i j : Nat} (hi : i < ns.length) (hj : j < ns.length) : (swapL ns i j).Perm ns := by
  unfold swapL
  rw [getD_at hi, getD_at hj]
  exact List.set_set_perm hi hj
theorem split_at {ns : List Int} {i : Nat} (h : i < ns.length) : ns = ns.take i ++ ns[i] :: ns.drop (i + 1) := by
  rw [← List.drop_eq_getElem_cons h, List.take_append_drop]
theorem moveL_perm {ns : List Int} {i j : Nat} (hi : i < ns.length) : (moveL ns i j).Perm ns := by
  unfold moveL
  rw [getD_at hi, List.append_assoc]
  show ((ns.take i ++ ns.drop (i + 1)).take j ++ ns[i] :: (ns.take i ++ ns.drop (i + 1)).drop j).Perm ns
  refine List.perm_middle.trans ?_
  rw [List.take_append_drop]
  refine List.perm_middle.symm.trans ?_
  rw [← split_at hi]
theorem turnL_perm {ns : List Int} {i j : Nat} : (turnL ns i j).Perm ns := by
  unfold turnL
  have e : ns = (ns.take (min i j) ++ (ns.drop (min i j)).take (max i j + 1 - min i j)) ++ ns.drop (max i j + 1) := by
    have h1 : ns.drop (max i j + 1) = (ns.drop (min i j)).drop (max i j + 1 - min i j) := by
      rw [List.drop_drop]
      congr 1
      omega
    rw [h1, List.append_assoc, List.take_append_drop, List.take_append_drop]
  refine ((List.Perm.append_left _ (List.reverse_perm _)).append_right _).trans ?_
  rw [← e]
theorem deedL_perm {w : Int} {ns : List Int} {i j : Nat} (hi : i < ns.length) (hj : j < ns.length) : (deedL w ns i j).Perm ns := by
  unfold deedL
  split
  · exact swapL_perm hi hj
  · split
    · exact moveL_perm hi
    · exact turnL_perm
theorem ordOk_of_perm {n : Int} {ms ns : List Int} (hp : ms.Perm ns) (h : ordOk n ns = true) : ordOk n ms = true := by
  obtain ⟨h1, h2, h3⟩ := ordOk_of h
  exact ordOk_mk (by rw [hp.length_eq]; exact h1) (fun k hk => h2 k (hp.mem_iff.mp hk)) (hp.nodup_iff.mpr h3)
theorem cut_mid {xs : List V} {a b : Nat} (hb : b ≤ xs.length) (hab : a ≤ b) : cutV xs (some (a : Int)) (some (b : Int)) = (xs.drop a).take (b - a) := by
  unfold cutV
  rw [HT.sIx_nat, HT.sIx_nat, Nat.min_eq_left hb, Nat.min_eq_left (by omega)]
def bstep (f : Nat × Nat → Int) (b : Option (Nat × Nat) × Int) (p : Nat × Nat) : Option (Nat × Nat) × Int := if f p < b.2 then (some p, f p) else b
def pairsTo (n : Nat) : Nat → List (Nat × Nat)
  | 0 => []
  | i + 1 => pairsTo n i ++ (List.range (n - (i + 1))).map fun t => (i, i + 1 + t)
def bestTo (f : Nat × Nat → Int) (here : Int) (ps : List (Nat × Nat)) : Option (Nat × Nat) × Int := ps.foldl (bstep f) (none, here)
theorem bestTo_snoc {f : Nat × Nat → Int} {here : Int} {ps : List (Nat × Nat)} {p : Nat × Nat} : bestTo f here (ps ++ [p]) = bstep f (bestTo f here ps) p := by
  unfold bestTo
  rw [List.foldl_append]
  rfl
theorem bestTo_less {f : Nat × Nat → Int} {here : Int} {ps : List (Nat × Nat)} : ((bestTo f here ps).1 = none ∧ (bestTo f here ps).2 = here) ∨ ((bestTo f here ps).1 ≠ none ∧ (bestTo f here ps).2 < here) := by
  have key : ∀ (ps : List (Nat × Nat)) (b : Option (Nat × Nat) × Int), ((b.1 = none ∧ b.2 = here) ∨ (b.1 ≠ none ∧ b.2 < here)) → (((ps.foldl (bstep f) b).1 = none ∧ (ps.foldl (bstep f) b).2 = here) ∨ ((ps.foldl (bstep f) b).1 ≠ none ∧ (ps.foldl (bstep f) b).2 < here)) := by
    intro ps
    induction ps with
    | nil => intro b h; exact h
    | cons p r ih =>
      intro b h
      rw [List.foldl_cons]
      refine ih _ ?_
      unfold bstep
      by_cases c : f p < b.2
      · rw [if_pos c]
        refine .inr ⟨by simp, ?_⟩
        show f p < here
        rcases h with h | h
        · omega
        · omega
      · rw [if_neg c]
        exact h
  exact key ps (none, here) (.inl ⟨rfl, rfl⟩)
def bestD : Option (Nat × Nat) → PyData
  | none => .none
  | some (i, j) => .tuple [.int (i : Int), .int (j : Int)]
theorem lay_best (b : Option (Nat × Nat)) : (bestD b).canLay0 = true := by
  cases b with
  | none => rfl
  | some p => rfl
theorem depth_best (b : Option (Nat × Nat)) : (bestD b).depth ≤ 1 := by
  cases b with
  | none => exact Nat.zero_le _
  | some p => show max 0 (max 0 0) + 1 ≤ 1; omega
def bestOf (n : Int) (ts : List (List Int)) (cur : List Int) : Option (Nat × Nat) := (bestTo (fun p => totF n (swapL cur p.1 p.2) ts) (totF n cur ts) (pairsTo cur.length cur.length)).1
def mask2 (x p : Addr) (H : Hp) : Hp := mask p (mask x H)
section
variable {H H' : Hp} {x p b : Addr} {o : HO}
theorem mask2_some {u : HO} (h : mask2 x p H b = some u) : b ≠ x ∧ b ≠ p ∧ H b = some u := by
  obtain ⟨h1, h2⟩ := mask_some h
  obtain ⟨h3, h4⟩ := mask_some h2
  exact ⟨h3, h1, h4⟩
theorem mask2_at {u : HO} (h1 : b ≠ x) (h2 : b ≠ p) (h : H b = some u) : mask2 x p H b = some u := by
  unfold mask2
  rw [mask_ne h2, mask_ne h1]
  exact h
theorem mask2_same : Same (mask2 x p H) H := fun _ _ h => (mask2_some h).2.2
theorem mask2_mono (e : Same H H') : Same (mask2 x p H) (mask2 x p H') := mask_mono (mask_mono e)
theorem mask2_x : mask2 x p (upd H x o) = mask2 x p H := by unfold mask2; rw [mask_upd]
theorem mask2_p : mask2 x p (upd H p o) = mask2 x p H := by
  funext b
  unfold mask2 mask
  by_cases e : b = p
  · rw [if_pos e, if_pos e]
  · rw [if_neg e, if_neg e, upd_ne e]
theorem mask2_new (h : H p = none) : Same (mask x H) (mask2 x p (upd H p o)) := fun c u q => by
  obtain ⟨q1, q2⟩ := mask_some q
  have hc : c ≠ p := fun z => by rw [z, h] at q2; cases q2
  exact mask2_at q1 hc (by rw [upd_ne hc]; exact q2)
end
def mask3 (Z : Addr → Bool) (x p : Addr) (H : Hp) : Hp := fun b => if Z b = true then none else mask2 x p H b
section
variable {Z : Addr → Bool} {H H' : Hp} {x p b : Addr} {o : HO}
theorem mask3_some {u : HO} (h : mask3 Z x p H b = some u) : b ≠ x ∧ b ≠ p ∧ H b = some u ∧ Z b = false := by
  unfold mask3 at h
  cases z : Z b with
  | true => rw [z, if_pos rfl] at h; cases h
  | false =>
    rw [z, if_neg Bool.false_ne_true] at h
    obtain ⟨h1, h2, h3⟩ := mask2_some h
    exact ⟨h1, h2, h3, rfl⟩
theorem mask3_at {u : HO} (h1 : b ≠ x) (h2 : b ≠ p) (hz : Z b = false) (h : H b = some u) : mask3 Z x p H b = some u := by
  unfold mask3
  rw [hz, if_neg Bool.false_ne_true]
  exact mask2_at h1 h2 h
theorem mask3_same : Same (mask3 Z x p H) H := fun _ _ h => (mask3_some h).2.2.1
theorem mask3_mono (e : Same H H') : Same (mask3 Z x p H) (mask3 Z x p H') := fun _ _ h => by
  obtain ⟨h1, h2, h3, h4⟩ := mask3_some h
  exact mask3_at h1 h2 h4 (e _ _ h3)
theorem mask3_x : mask3 Z x p (upd H x o) = mask3 Z x p H := by unfold mask3; rw [mask2_x]
theorem mask3_p : mask3 Z x p (upd H p o) = mask3 Z x p H := by unfold mask3; rw [mask2_p]
theorem notZ (hZ : ∀ z, Z z = true → H z ≠ none) (e : Same H H') (h : H' p = none) : Z p = false := by
  cases z : Z p with
  | false => rfl
  | true => exact absurd (e.free h) (hZ p z)
end
def NewT (H H' : Hp) : Hp := fun b => match H b with
  | some (.tup _) => H' b
  | some _ => none
  | none => H' b
section
variable {H H1 H2 H' : Hp} {b x pa : Addr}
theorem newT_none (h : H b = none) : NewT H H' b = H' b := by unfold NewT; rw [h]
theorem newT_tup {xs : List V} (h : H b = some (.tup xs)) : NewT H H' b = H' b := by unfold NewT; rw [h]
theorem newT_cases {u : HO} (h : NewT H H' b = some u) : H' b = some u ∧ (H b = none ∨ ∃ xs, H b = some (.tup xs)) := by
  cases e : H b with
  | none => rw [newT_none e] at h; exact ⟨h, .inl rfl⟩
  | some o =>
    cases o with
    | tup xs => rw [newT_tup e] at h; exact ⟨h, .inr ⟨xs, rfl⟩⟩
    | _ => unfold NewT at h; rw [e] at h; cases h
theorem newT_same : Same (NewT H H') H' := fun _ _ h => (newT_cases h).1
theorem newT_later (e : Same H1 H2) : Same (NewT H2 H') (NewT H1 H') := fun c u h => by
  obtain ⟨h1, h2⟩ := newT_cases h
  cases q : H1 c with
  | none => rw [newT_none q]; exact h1
  | some o =>
    have q2 := e _ _ q
    rcases h2 with h2 | ⟨xs, h2⟩
    · rw [h2] at q2; cases q2
    · rw [h2] at q2
      cases q2
      rw [newT_tup q]; exact h1
theorem newT_mask2 {C dx : Addr} {fs : List (Str × V)} {ps : List V} (hx : H x = some (.ins C dx fs)) (hp : H pa = some (.lst ps)) : Same (NewT H H') (mask2 x pa H') := fun c u h => by
  obtain ⟨h1, h2⟩ := newT_cases h
  refine mask2_at (fun z => ?_) (fun z => ?_) h1
  · subst z
    rw [hx] at h2
    rcases h2 with h2 | ⟨xs, h2⟩ <;> cases h2
  · subst z
    rw [hp] at h2
    rcases h2 with h2 | ⟨xs, h2⟩ <;> cases h2
theorem ties_mono (e : ∀ c ys, H c = some (.tup ys) → H' c = some (.tup ys)) : ∀ {ts : List (List Int)} {xs : List V}, DatL H (ts.map tieD) xs → DatL H' (ts.map tieD) xs
  | [], _, h => by rw [h.unnil]; exact DatL.nil
  | t :: ts, _, h => by
    obtain ⟨y, ys, rfl, r, q⟩ := h.uncons
    obtain ⟨a, rfl, z⟩ := Dat.intsT_of r
    exact DatL.cons (Dat.intsT (e _ _ z)) (ties_mono e q)
end
theorem n_wr : ¬ (("web" : Str) = "row") := by decide +kernel
theorem n_wp : ¬ (("web" : Str) = "past") := by decide +kernel
theorem n_rp : ¬ (("row" : Str) = "past") := by decide +kernel
def laidF (wa ra pa : Addr) : List (Str × V) := putF "past" (.ref pa) (putF "row" (.ref ra) (putF "web" (.ref wa) []))
theorem laid_eq (wa ra pa : Addr) : laidF wa ra pa = ([("web", V.ref wa), ("row", V.ref ra), ("past", V.ref pa)] : List (Str × V)) := by
  unfold laidF
  have e1 : putF "row" (V.ref ra) (putF "web" (V.ref wa) []) = ([("web", V.ref wa), ("row", V.ref ra)] : List (Str × V)) := by
    show (if ("web" : Str) = "row" then _ else (("web" : Str), V.ref wa) :: putF "row" (V.ref ra) []) = _
    rw [if_neg n_wr]
    rfl
  rw [e1]
  show (if ("web" : Str) = "past" then _ else (("web" : Str), V.ref wa) :: (if ("row" : Str) = "past" then _ else (("row" : Str), V.ref ra) :: putF "past" (V.ref pa) [])) = _
  rw [if_neg n_wp, if_neg n_rp]
  rfl
theorem laid_web (wa ra pa : Addr) : (laidF wa ra pa).lookup ("web" : Str) = some (.ref wa) := by
  unfold laidF
  rw [lookup_putF, if_neg n_wp, lookup_putF, if_neg n_wr, lookup_putF, if_pos rfl]
theorem laid_row (wa ra pa : Addr) : (laidF wa ra pa).lookup ("row" : Str) = some (.ref ra) := by
  unfold laidF
  rw [lookup_putF, if_neg n_rp, lookup_putF, if_pos rfl]
theorem laid_past (wa ra pa : Addr) : (laidF wa ra pa).lookup ("past" : Str) = some (.ref pa) := by
  unfold laidF
  rw [lookup_putF, if_pos rfl]
theorem laid_no (wa ra pa : Addr) {m : Str} (h1 : ¬ m = "past") (h2 : ¬ m = "row") (h3 : ¬ m = "web") : (laidF wa ra pa).lookup m = none := by
  unfold laidF
  rw [lookup_putF, if_neg h1, lookup_putF, if_neg h2, lookup_putF, if_neg h3]
  rfl
theorem laid_put (wa ra pa rb : Addr) : putF "row" (V.ref rb) (laidF wa ra pa) = laidF wa rb pa := by
  rw [laid_eq, laid_eq]
  show (if ("web" : Str) = "row" then _ else (("web" : Str), V.ref wa) :: (if ("row" : Str) = "row" then (("row" : Str), V.ref rb) :: [(("past" : Str), V.ref pa)] else _)) = _
  rw [if_neg n_wr, if_pos rfl]
theorem laid_len (wa ra pa : Addr) : (laidF wa ra pa).length < 1000 := by rw [laid_eq]; show 3 < 1000; decide
structure LaidAt (Z : Addr → Bool) (C : Addr) (H : Hp) (x pa : Addr) (n : Int) (ts : List (List Int)) (cur : List Int) (past : List (List Int)) : Prop where
  ex : ∃ (dx wa ra : Addr) (ps : List V), H x = some (.ins C dx (laidF wa ra pa)) ∧ H pa = some (.lst ps) ∧ Dat (mask3 Z x pa H) (webD n ts) (.ref wa) ∧ mask3 Z x pa H ra = some (.lst (cur.map .int)) ∧ DatL (mask3 Z x pa H) (past.map ordD) ps
abbrev Z0 : Addr → Bool := fun _ => false
section
variable {Z : Addr → Bool} {C : Addr} {H H' : Hp} {x pa : Addr} {n : Int} {ts : List (List Int)} {cur : List Int} {past : List (List Int)}
theorem LaidAt.later (h : LaidAt Z C H x pa n ts cur past) (e : Same H H') : LaidAt Z C H' x pa n ts cur past := by
  obtain ⟨dx, wa, ra, ps, h1, h2, h3, h4, h5⟩ := h.ex
  exact ⟨dx, wa, ra, ps, e _ _ h1, e _ _ h2, h3.mono (mask3_mono e), mask3_mono e _ _ h4, h5.mono (mask3_mono e)⟩
theorem LaidAt.avoid {l : Addr} (h : LaidAt Z0 C H x pa n ts cur past) (hl : H l = none) : LaidAt (fun b => decide (b = l)) C H x pa n ts cur past := by
  obtain ⟨dx, wa, ra, ps, h1, h2, h3, h4, h5⟩ := h.ex
  have e : Same (mask3 Z0 x pa H) (mask3 (fun b => decide (b = l)) x pa H) := fun b u q => by
    obtain ⟨q1, q2, q3, _⟩ := mask3_some q
    exact mask3_at q1 q2 (decide_eq_false fun z => by rw [z, hl] at q3; cases q3) q3
  exact ⟨dx, wa, ra, ps, h1, h2, h3.mono e, e _ _ h4, h5.mono e⟩
theorem LaidAt.all (h : LaidAt Z C H x pa n ts cur past) : LaidAt Z0 C H x pa n ts cur past := by
  obtain ⟨dx, wa, ra, ps, h1, h2, h3, h4, h5⟩ := h.ex
  have e : Same (mask3 Z x pa H) (mask3 Z0 x pa H) := fun b u q => by
    obtain ⟨q1, q2, q3, _⟩ := mask3_some q
    exact mask3_at q1 q2 rfl q3
  exact ⟨dx, wa, ra, ps, h1, h2, h3.mono e, e _ _ h4, h5.mono e⟩
theorem LaidAt.put {l : Addr} {o : HO} (h : LaidAt (fun b => decide (b = l)) C H x pa n ts cur past) (h1 : x ≠ l) (h2 : pa ≠ l) : LaidAt (fun b => decide (b = l)) C (upd H l o) x pa n ts cur past := by
  obtain ⟨dx, wa, ra, ps, q1, q2, q3, q4, q5⟩ := h.ex
  have e : Same (mask3 (fun b => decide (b = l)) x pa H) (mask3 (fun b => decide (b = l)) x pa (upd H l o)) := fun b u q => by
    obtain ⟨r1, r2, r3, r4⟩ := mask3_some q
    exact mask3_at r1 r2 r4 (by rw [upd_ne (of_decide_eq_false r4)]; exact r3)
  exact ⟨dx, wa, ra, ps, (upd_ne h1).trans q1, (upd_ne h2).trans q2, q3.mono e, e _ _ q4, q5.mono e⟩
theorem LaidAt.at (h : LaidAt Z C H x pa n ts cur past) : ∃ (dx wa ra : Addr), H x = some (.ins C dx (laidF wa ra pa)) ∧ Dat H (webD n ts) (.ref wa) ∧ H ra = some (.lst (cur.map .int)) := by
  obtain ⟨dx, wa, ra, ps, h1, h2, h3, h4, h5⟩ := h.ex
  exact ⟨dx, wa, ra, h1, h3.mono mask3_same, mask3_same _ _ h4⟩
end
def spSpots2 (A : Er) : Sp := fun vs H Q E => ∃ (r : Addr) (ns : List Int) (i j : Int), vs = [.ref r, .int i, .int j] ∧ H r = some (.lst (ns.map .int)) ∧ small i ∧ small j ∧
  (inR ns i j → ∀ H', Same H H' → Q .non H') ∧ (¬ inR ns i j → ∀ H', Same H H' → E (.ref A.BadSpot) none H')
def spRowF (f : List Int → Nat → Nat → List Int) : Sp := fun vs H Q _ => ∃ (r : Addr) (ns : List Int) (i j : Int), vs = [.ref r, .int i, .int j] ∧ H r = some (.lst (ns.map .int)) ∧ inR ns i j ∧ ns.length ≤ 100 ∧
  ∀ p H', H p = none → Same H H' → H' p = some (.lst ((f ns i.toNat j.toNat).map .int)) → Q (.ref p) H'
def spInit (A : Er) (C : Addr) : Sp := fun vs H Q E => ∃ (x dx : Addr) (v : V) (l : Addr) (n : Int) (ts : List (List Int)) (ns : List Int), vs = [.ref x, v, .ref l] ∧ H x = some (.ins C dx []) ∧ Both A H v l n ts ns E ∧
  (webOk n ts = true → ordOk n ns = true → ∀ pa H', H pa = none → Same (mask x H) (mask2 x pa H') → LaidAt Z0 C (NewT (mask x H) H') x pa n ts ns [] → Q .non H')
def spLay (C : Addr) : Sp := fun vs H Q _ => ∃ (x r dx wa ra pa : Addr) (ps : List V), vs = [.ref x, .ref r] ∧ H x = some (.ins C dx (laidF wa ra pa)) ∧ H pa = some (.lst ps) ∧ ps.length ≤ 1000 ∧
  Q .non (upd (upd H pa (.lst (ps ++ [.ref ra]))) x (.ins C dx (laidF wa r pa)))
def spDeed (A : Er) (C : Addr) (f : List Int → Nat → Nat → List Int) : Sp := fun vs H Q E => ∃ (Z : Addr → Bool) (x pa : Addr) (i j : Int) (n : Int) (ts : List (List Int)) (cur : List Int) (past : List (List Int)), vs = [.ref x, .int i, .int j] ∧ (∀ z, Z z = true → H z ≠ none) ∧ LaidAt Z C H x pa n ts cur past ∧
  cur.length ≤ 100 ∧ past.length ≤ 1000 ∧ small i ∧ small j ∧
  (inR cur i j → ∀ H', LaidAt Z C H' x pa n ts (f cur i.toNat j.toNat) (past ++ [cur]) → Same (mask2 x pa H) (mask2 x pa H') → Q .non H') ∧ (¬ inR cur i j → ∀ H', Same H H' → E (.ref A.BadSpot) none H')
def spBack (C : Addr) : Sp := fun vs H Q _ => ∃ (Z : Addr → Bool) (x pa : Addr) (n : Int) (ts : List (List Int)) (cur : List Int) (past : List (List Int)), vs = [.ref x] ∧ (∀ z, Z z = true → H z ≠ none) ∧ LaidAt Z C H x pa n ts cur past ∧
  (past = [] → Q (.bl false) H) ∧ (∀ r p, past = p ++ [r] → ∀ H', LaidAt Z C H' x pa n ts r p → Same (mask2 x pa H) (mask2 x pa H') → Q (.bl true) H')
structure LaidOk (C : Addr) (H : Hp) (x : Addr) (n : Int) (ts : List (List Int)) (cur : List Int) : Prop where
  at_ : ∃ pa past, LaidAt Z0 C H x pa n ts cur past
  web : webOk n ts = true
  win : WebIn n ts
  ord : ordOk n cur = true
  oin : OrdIn cur
def spLOrder (C : Addr) : Sp := fun vs H Q _ => ∃ (x : Addr) (n : Int) (ts : List (List Int)) (cur : List Int), vs = [.ref x] ∧ LaidOk C H x n ts cur ∧ ∀ p H', H p = none → Same H H' → H' p = some (.lst (cur.map .int)) → Q (.ref p) H'
def spLGapsM (C : Addr) : Sp := fun vs H Q _ => ∃ (x : Addr) (n : Int) (ts : List (List Int)) (cur : List Int), vs = [.ref x] ∧ LaidOk C H x n ts cur ∧ ∀ p H', H p = none → Same H H' → H' p = some (.lst ((gapsL (n - 1).toNat cur ts).map .int)) → Q (.ref p) H'
def spLNum (C : Addr) (f : Int → List Int → List (List Int) → Int) : Sp := fun vs H Q _ => ∃ (x : Addr) (n : Int) (ts : List (List Int)) (cur : List Int), vs = [.ref x] ∧ LaidOk C H x n ts cur ∧ ∀ H', Same H H' → Q (.int (f n cur ts)) H'
def spLBestM (C : Addr) : Sp := fun vs H Q _ => ∃ (x : Addr) (n : Int) (ts : List (List Int)) (cur : List Int), vs = [.ref x] ∧ LaidOk C H x n ts cur ∧ ∀ v H', Same H H' → Dat H' (bestD (bestOf n ts cur)) v → Q v H'
def spLMeas : Sp := fun vs H Q _ => ∃ (v : V) (kd : Str) (l : Addr) (n : Int) (ts : List (List Int)) (os : List Int), vs = [v, .str kd, .ref l] ∧ Dat H (webD n ts) v ∧ H l = some (.lst (os.map .int)) ∧ webOk n ts = true ∧ WebIn n ts ∧ ts.length ≤ 64 ∧ ordOk n os = true ∧
  (kd = "longest" → ∀ H', Same H H' → Q (.int (longF n os ts)) H') ∧ (kd = "most" → ∀ H', Same H H' → Q (.int (mostF n os ts)) H') ∧ (kd ≠ "longest" → kd ≠ "most" → ∀ H', Same H H' → Q (.int (totF n os ts)) H')
def spDone (A : Er) (C : Addr) : Sp := fun vs H Q _ => ∃ (Z : Addr → Bool) (x pa : Addr) (wd i j : Int) (n : Int) (ts : List (List Int)) (cur : List Int) (past : List (List Int)), vs = [.ref x, .int wd, .int i, .int j] ∧ (∀ z, Z z = true → H z ≠ none) ∧ LaidAt Z C H x pa n ts cur past ∧
  cur.length ≤ 100 ∧ past.length ≤ 1000 ∧ small i ∧ small j ∧
  (inR cur i j → ∀ H', LaidAt Z C H' x pa n ts (deedL wd cur i.toNat j.toNat) (past ++ [cur]) → Same (mask2 x pa H) (mask2 x pa H') → Q (.str "ok") H') ∧ (¬ inR cur i j → ∀ H', Same H H' → Q (.str "spot") H')
def spMade : Sp := fun vs H Q _ => ∃ (v : V) (l : Addr) (n : Int) (ts : List (List Int)) (ns : List Int), vs = [v, .ref l] ∧ Dat H (webD n ts) v ∧ H l = some (.lst (ns.map .int)) ∧ WebIn n ts ∧ OrdIn ns ∧ (webOk n ts = true → ordOk n ns = false) ∧
  (webOk n ts = false → ∀ H', Same H H' → Q (.str "web") H') ∧ (webOk n ts = true → ∀ H', Same H H' → Q (.str "order") H')
def spLDeed : Sp := fun vs H Q _ => ∃ (r : Addr) (ns : List Int) (wd i j : Int), vs = [.ref r, .int wd, .int i, .int j] ∧ H r = some (.lst (ns.map .int)) ∧ inR ns i j ∧ ns.length ≤ 100 ∧
  ∀ p H', H p = none → Same H H' → H' p = some (.lst ((deedL wd ns i.toNat j.toNat).map .int)) → Q (.ref p) H'
def spLBest : Sp := fun vs H Q _ => ∃ (v : V) (l : Addr) (n : Int) (ts : List (List Int)) (cur : List Int), vs = [v, .ref l] ∧ Dat H (webD n ts) v ∧ H l = some (.lst (cur.map .int)) ∧ webOk n ts = true ∧ WebIn n ts ∧ ts.length ≤ 64 ∧ ordOk n cur = true ∧
  ∀ v' H', Same H H' → Dat H' (bestD (bestOf n ts cur)) v' → Q v' H'
def spLSame (C : Addr) : Sp := fun vs H Q _ => ∃ (x : Addr) (v : V) (l : Addr) (n : Int) (ts : List (List Int)) (cur : List Int), vs = [.ref x, v, .ref l] ∧ LaidOk C H x n ts cur ∧ Dat H (webD n ts) v ∧ H l = some (.lst (cur.map .int)) ∧ ts.length ≤ 64 ∧ ∀ H', Same H H' → Q (.bl true) H'
end My
set_option Elab.async false
set_option linter.all false
set_option maxRecDepth 100000
set_option maxHeartbeats 4000000
namespace My
open PySem L2 PySem.Spec PyProof.Rows
def top (i : Nat) : Stmt := PySem.Challenge.pw_rowlay_k10_whole_deeds.main.body.getD i (.Pass ⟨0, 0, 0, 0⟩)
abbrev s_is_whole : Stmt := top 10
abbrev s_is_within : Stmt := top 11
abbrev s_is_tie : Stmt := top 12
abbrev s_look_ties : Stmt := top 13
abbrev s_look_web : Stmt := top 14
abbrev s_look_order : Stmt := top 15
abbrev s_look_both : Stmt := top 16
abbrev s_spots_of : Stmt := top 17
abbrev s_lengths : Stmt := top 18
abbrev s_gaps : Stmt := top 19
abbrev s_longest : Stmt := top 21
abbrev s_total : Stmt := top 23
abbrev s_look_spots : Stmt := top 26
abbrev s_swapped : Stmt := top 27
abbrev s_moved : Stmt := top 28
abbrev s_turned : Stmt := top 29
abbrev s_law_cell : Stmt := top 32
abbrev s_law_mix : Stmt := top 33
abbrev s_law_whole : Stmt := top 34
abbrev s_law_web : Stmt := top 35
abbrev s_law_order : Stmt := top 36
abbrev s_law_lengths : Stmt := top 37
abbrev s_law_gaps : Stmt := top 38
abbrev s_law_measured : Stmt := top 39
abbrev s_law_refusal : Stmt := top 40
abbrev s_law_done : Stmt := top 41
abbrev s_law_made : Stmt := top 42
abbrev s_law_deed : Stmt := top 43
abbrev s_law_best : Stmt := top 44
abbrev s_law_same : Stmt := top 45
abbrev s_law : Stmt := top 46
abbrev s_Laid_init : Stmt := inClass (top 30) 0
abbrev s_Laid_lay : Stmt := inClass (top 30) 1
abbrev s_Laid_swap : Stmt := inClass (top 30) 2
abbrev s_Laid_move : Stmt := inClass (top 30) 3
abbrev s_Laid_turn : Stmt := inClass (top 30) 4
abbrev s_Laid_back : Stmt := inClass (top 30) 5
abbrev s_Laid_order : Stmt := inClass (top 30) 6
abbrev s_Laid_gaps : Stmt := inClass (top 30) 7
abbrev s_Laid_longest : Stmt := inClass (top 30) 8
abbrev s_Laid_total : Stmt := inClass (top 30) 9
abbrev s_Laid_best_swap : Stmt := inClass (top 30) 10
abbrev bmV : List Value := [.type "ValueError", .type "Exception", .type "BaseException", .type "object"]
structure Ad where
  is_whole : Addr
  is_within : Addr
  is_tie : Addr
  look_ties : Addr
  look_web : Addr
  look_order : Addr
  look_both : Addr
  spots_of : Addr
  lengths : Addr
  gaps : Addr
  longest : Addr
  total : Addr
  look_spots : Addr
  swapped : Addr
  moved : Addr
  turned : Addr
  law_cell : Addr
  law_mix : Addr
  law_whole : Addr
  law_web : Addr
  law_order : Addr
  law_lengths : Addr
  law_gaps : Addr
  law_measured : Addr
  law_refusal : Addr
  law_done : Addr
  law_made : Addr
  law_deed : Addr
  law_best : Addr
  law_same : Addr
  law : Addr
  LayError : Addr
  BadWeb : Addr
  BadOrder : Addr
  BadSpot : Addr
  BadKind : Addr
  BadText : Addr
  Laid : Addr
  Laid_init : Addr
  Laid_lay : Addr
  Laid_swap : Addr
  Laid_move : Addr
  Laid_turn : Addr
  Laid_back : Addr
  Laid_order : Addr
  Laid_gaps : Addr
  Laid_longest : Addr
  Laid_total : Addr
  Laid_best_swap : Addr
abbrev Ad.er (A : Ad) : Er := ⟨A.LayError, A.BadWeb, A.BadOrder, A.BadSpot, A.BadKind, A.BadText⟩
structure FD where
  is_whole : FuncData
  is_within : FuncData
  is_tie : FuncData
  look_ties : FuncData
  look_web : FuncData
  look_order : FuncData
  look_both : FuncData
  spots_of : FuncData
  lengths : FuncData
  gaps : FuncData
  longest : FuncData
  total : FuncData
  look_spots : FuncData
  swapped : FuncData
  moved : FuncData
  turned : FuncData
  law_cell : FuncData
  law_mix : FuncData
  law_whole : FuncData
  law_web : FuncData
  law_order : FuncData
  law_lengths : FuncData
  law_gaps : FuncData
  law_measured : FuncData
  law_refusal : FuncData
  law_done : FuncData
  law_made : FuncData
  law_deed : FuncData
  law_best : FuncData
  law_same : FuncData
  law : FuncData
  Laid_init : FuncData
  Laid_lay : FuncData
  Laid_swap : FuncData
  Laid_move : FuncData
  Laid_turn : FuncData
  Laid_back : FuncData
  Laid_order : FuncData
  Laid_gaps : FuncData
  Laid_longest : FuncData
  Laid_total : FuncData
  Laid_best_swap : FuncData
structure Txt (K : PySem.W.Frag) (mg : Str → Option Value) (A : Ad) (D : FD) : Prop where
  F_is_whole : Fun K "is_whole" "is_whole" s_is_whole A.is_whole D.is_whole
  m_is_whole : mg "is_whole" = some (.ref A.is_whole)
  b_is_whole : Binds K D.is_whole ["value"] []
  F_is_within : Fun K "is_within" "is_within" s_is_within A.is_within D.is_within
  m_is_within : mg "is_within" = some (.ref A.is_within)
  b_is_within : Binds K D.is_within ["value", "least", "greatest"] []
  F_is_tie : Fun K "is_tie" "is_tie" s_is_tie A.is_tie D.is_tie
  m_is_tie : mg "is_tie" = some (.ref A.is_tie)
  b_is_tie : Binds K D.is_tie ["tie", "places"] []
  F_look_ties : Fun K "look_ties" "look_ties" s_look_ties A.look_ties D.look_ties
  m_look_ties : mg "look_ties" = some (.ref A.look_ties)
  b_look_ties : Binds K D.look_ties ["places", "ties"] []
  F_look_web : Fun K "look_web" "look_web" s_look_web A.look_web D.look_web
  m_look_web : mg "look_web" = some (.ref A.look_web)
  b_look_web : Binds K D.look_web ["web"] []
  F_look_order : Fun K "look_order" "look_order" s_look_order A.look_order D.look_order
  m_look_order : mg "look_order" = some (.ref A.look_order)
  b_look_order : Binds K D.look_order ["places", "order"] []
  F_look_both : Fun K "look_both" "look_both" s_look_both A.look_both D.look_both
  m_look_both : mg "look_both" = some (.ref A.look_both)
  b_look_both : Binds K D.look_both ["web", "order"] []
  F_spots_of : Fun K "spots_of" "spots_of" s_spots_of A.spots_of D.spots_of
  m_spots_of : mg "spots_of" = some (.ref A.spots_of)
  b_spots_of : Binds K D.spots_of ["order"] []
  F_lengths : Fun K "lengths" "lengths" s_lengths A.lengths D.lengths
  m_lengths : mg "lengths" = some (.ref A.lengths)
  b_lengths : Binds K D.lengths ["web", "order"] []
  F_gaps : Fun K "gaps" "gaps" s_gaps A.gaps D.gaps
  m_gaps : mg "gaps" = some (.ref A.gaps)
  b_gaps : Binds K D.gaps ["web", "order"] []
  F_longest : Fun K "longest" "longest" s_longest A.longest D.longest
  m_longest : mg "longest" = some (.ref A.longest)
  b_longest : Binds K D.longest ["web", "order"] []
  F_total : Fun K "total" "total" s_total A.total D.total
  m_total : mg "total" = some (.ref A.total)
  b_total : Binds K D.total ["web", "order"] []
  F_look_spots : Fun K "look_spots" "look_spots" s_look_spots A.look_spots D.look_spots
  m_look_spots : mg "look_spots" = some (.ref A.look_spots)
  b_look_spots : Binds K D.look_spots ["row", "one", "other"] []
  F_swapped : Fun K "swapped" "swapped" s_swapped A.swapped D.swapped
  m_swapped : mg "swapped" = some (.ref A.swapped)
  b_swapped : Binds K D.swapped ["row", "one", "other"] []
  F_moved : Fun K "moved" "moved" s_moved A.moved D.moved
  m_moved : mg "moved" = some (.ref A.moved)
  b_moved : Binds K D.moved ["row", "one", "other"] []
  F_turned : Fun K "turned" "turned" s_turned A.turned D.turned
  m_turned : mg "turned" = some (.ref A.turned)
  b_turned : Binds K D.turned ["row", "one", "other"] []
  F_law_cell : Fun K "_law_cell" "_law_cell" s_law_cell A.law_cell D.law_cell
  m_law_cell : mg "_law_cell" = some (.ref A.law_cell)
  b_law_cell : Binds K D.law_cell ["_law_script", "_law_k"] []
  F_law_mix : Fun K "_law_mix" "_law_mix" s_law_mix A.law_mix D.law_mix
  m_law_mix : mg "_law_mix" = some (.ref A.law_mix)
  b_law_mix : Binds K D.law_mix ["_law_script", "_law_k"] []
  F_law_whole : Fun K "_law_whole" "_law_whole" s_law_whole A.law_whole D.law_whole
  m_law_whole : mg "_law_whole" = some (.ref A.law_whole)
  b_law_whole : Binds K D.law_whole ["_law_found"] []
  F_law_web : Fun K "_law_web" "_law_web" s_law_web A.law_web D.law_web
  m_law_web : mg "_law_web" = some (.ref A.law_web)
  b_law_web : Binds K D.law_web ["_law_script", "_law_k", "_law_places"] []
  F_law_order : Fun K "_law_order" "_law_order" s_law_order A.law_order D.law_order
  m_law_order : mg "_law_order" = some (.ref A.law_order)
  b_law_order : Binds K D.law_order ["_law_script", "_law_k", "_law_many"] []
  F_law_lengths : Fun K "_law_lengths" "_law_lengths" s_law_lengths A.law_lengths D.law_lengths
  m_law_lengths : mg "_law_lengths" = some (.ref A.law_lengths)
  b_law_lengths : Binds K D.law_lengths ["_law_web_here", "_law_order_here"] []
  F_law_gaps : Fun K "_law_gaps" "_law_gaps" s_law_gaps A.law_gaps D.law_gaps
  m_law_gaps : mg "_law_gaps" = some (.ref A.law_gaps)
  b_law_gaps : Binds K D.law_gaps ["_law_web_here", "_law_order_here"] []
  F_law_measured : Fun K "_law_measured" "_law_measured" s_law_measured A.law_measured D.law_measured
  m_law_measured : mg "_law_measured" = some (.ref A.law_measured)
  b_law_measured : Binds K D.law_measured ["_law_web_here", "_law_kind", "_law_order_here"] []
  F_law_refusal : Fun K "_law_refusal" "_law_refusal" s_law_refusal A.law_refusal D.law_refusal
  m_law_refusal : mg "_law_refusal" = some (.ref A.law_refusal)
  b_law_refusal : Binds K D.law_refusal ["_law_kept"] []
  F_law_done : Fun K "_law_done" "_law_done" s_law_done A.law_done D.law_done
  m_law_done : mg "_law_done" = some (.ref A.law_done)
  b_law_done : Binds K D.law_done ["_law_laid", "_law_word", "_law_one", "_law_other"] []
  F_law_made : Fun K "_law_made" "_law_made" s_law_made A.law_made D.law_made
  m_law_made : mg "_law_made" = some (.ref A.law_made)
  b_law_made : Binds K D.law_made ["_law_web_here", "_law_order_here"] []
  F_law_deed : Fun K "_law_deed" "_law_deed" s_law_deed A.law_deed D.law_deed
  m_law_deed : mg "_law_deed" = some (.ref A.law_deed)
  b_law_deed : Binds K D.law_deed ["_law_row", "_law_word", "_law_one", "_law_other"] []
  F_law_best : Fun K "_law_best" "_law_best" s_law_best A.law_best D.law_best
  m_law_best : mg "_law_best" = some (.ref A.law_best)
  b_law_best : Binds K D.law_best ["_law_web_here", "_law_row"] []
  F_law_same : Fun K "_law_same" "_law_same" s_law_same A.law_same D.law_same
  m_law_same : mg "_law_same" = some (.ref A.law_same)
  b_law_same : Binds K D.law_same ["_law_laid", "_law_web_here", "_law_row"] []
  F_law : Fun K "law" "law" s_law A.law D.law
  m_law : mg "law" = some (.ref A.law)
  b_law : Binds K D.law ["_law_script"] []
  bl_law : ∀ (s : Shared) (u : Value), BindsTo s D.law ⟨[u], []⟩ [("_law_script", u)]
  m_LayError : mg "LayError" = some (.ref A.LayError)
  x_LayError : PySem.W.excIn K A.LayError bmV "ValueError.__new__" = true
  m_BadWeb : mg "BadWeb" = some (.ref A.BadWeb)
  x_BadWeb : PySem.W.excIn K A.BadWeb bmV "ValueError.__new__" = true
  l_BadWeb : ExcLook K A.BadWeb
  s_BadWeb : PySem.W.mroIn K A.BadWeb (.ref A.LayError) = some true
  v_BadWeb : PySem.W.kitOne K (.ref A.BadWeb) (.type "ValueError") = some true
  m_BadOrder : mg "BadOrder" = some (.ref A.BadOrder)
  x_BadOrder : PySem.W.excIn K A.BadOrder bmV "ValueError.__new__" = true
  l_BadOrder : ExcLook K A.BadOrder
  s_BadOrder : PySem.W.mroIn K A.BadOrder (.ref A.LayError) = some true
  v_BadOrder : PySem.W.kitOne K (.ref A.BadOrder) (.type "ValueError") = some true
  m_BadSpot : mg "BadSpot" = some (.ref A.BadSpot)
  x_BadSpot : PySem.W.excIn K A.BadSpot bmV "ValueError.__new__" = true
  l_BadSpot : ExcLook K A.BadSpot
  s_BadSpot : PySem.W.mroIn K A.BadSpot (.ref A.LayError) = some true
  v_BadSpot : PySem.W.kitOne K (.ref A.BadSpot) (.type "ValueError") = some true
  m_BadKind : mg "BadKind" = some (.ref A.BadKind)
  x_BadKind : PySem.W.excIn K A.BadKind bmV "ValueError.__new__" = true
  l_BadKind : ExcLook K A.BadKind
  s_BadKind : PySem.W.mroIn K A.BadKind (.ref A.LayError) = some true
  v_BadKind : PySem.W.kitOne K (.ref A.BadKind) (.type "ValueError") = some true
  m_BadText : mg "BadText" = some (.ref A.BadText)
  x_BadText : PySem.W.excIn K A.BadText bmV "ValueError.__new__" = true
  l_BadText : ExcLook K A.BadText
  s_BadText : PySem.W.mroIn K A.BadText (.ref A.LayError) = some true
  v_BadText : PySem.W.kitOne K (.ref A.BadText) (.type "ValueError") = some true
  i_BadWeb_BadWeb : PySem.W.kitOne K (.ref A.BadWeb) (.ref A.BadWeb) = some true
  i_BadWeb_BadOrder : PySem.W.kitOne K (.ref A.BadWeb) (.ref A.BadOrder) = some false
  i_BadWeb_BadSpot : PySem.W.kitOne K (.ref A.BadWeb) (.ref A.BadSpot) = some false
  i_BadWeb_BadKind : PySem.W.kitOne K (.ref A.BadWeb) (.ref A.BadKind) = some false
  i_BadWeb_BadText : PySem.W.kitOne K (.ref A.BadWeb) (.ref A.BadText) = some false
  i_BadOrder_BadWeb : PySem.W.kitOne K (.ref A.BadOrder) (.ref A.BadWeb) = some false
  i_BadOrder_BadOrder : PySem.W.kitOne K (.ref A.BadOrder) (.ref A.BadOrder) = some true
  i_BadOrder_BadSpot : PySem.W.kitOne K (.ref A.BadOrder) (.ref A.BadSpot) = some false
  i_BadOrder_BadKind : PySem.W.kitOne K (.ref A.BadOrder) (.ref A.BadKind) = some false
  i_BadOrder_BadText : PySem.W.kitOne K (.ref A.BadOrder) (.ref A.BadText) = some false
  i_BadSpot_BadWeb : PySem.W.kitOne K (.ref A.BadSpot) (.ref A.BadWeb) = some false
  i_BadSpot_BadOrder : PySem.W.kitOne K (.ref A.BadSpot) (.ref A.BadOrder) = some false
  i_BadSpot_BadSpot : PySem.W.kitOne K (.ref A.BadSpot) (.ref A.BadSpot) = some true
  i_BadSpot_BadKind : PySem.W.kitOne K (.ref A.BadSpot) (.ref A.BadKind) = some false
  i_BadSpot_BadText : PySem.W.kitOne K (.ref A.BadSpot) (.ref A.BadText) = some false
  i_BadKind_BadWeb : PySem.W.kitOne K (.ref A.BadKind) (.ref A.BadWeb) = some false
  i_BadKind_BadOrder : PySem.W.kitOne K (.ref A.BadKind) (.ref A.BadOrder) = some false
  i_BadKind_BadSpot : PySem.W.kitOne K (.ref A.BadKind) (.ref A.BadSpot) = some false
  i_BadKind_BadKind : PySem.W.kitOne K (.ref A.BadKind) (.ref A.BadKind) = some true
  i_BadKind_BadText : PySem.W.kitOne K (.ref A.BadKind) (.ref A.BadText) = some false
  i_BadText_BadWeb : PySem.W.kitOne K (.ref A.BadText) (.ref A.BadWeb) = some false
  i_BadText_BadOrder : PySem.W.kitOne K (.ref A.BadText) (.ref A.BadOrder) = some false
  i_BadText_BadSpot : PySem.W.kitOne K (.ref A.BadText) (.ref A.BadSpot) = some false
  i_BadText_BadKind : PySem.W.kitOne K (.ref A.BadText) (.ref A.BadKind) = some false
  i_BadText_BadText : PySem.W.kitOne K (.ref A.BadText) (.ref A.BadText) = some true
  g_MOST_PLACES : ∃ t, mg "MOST_PLACES" = some (.int 8 t)
  g_MOST_WEIGHT : ∃ t, mg "MOST_WEIGHT" = some (.int 100 t)
  m_gaps_webs : mg "gaps_webs" = some (.ref A.gaps)
  m_longest_webs : mg "longest_webs" = some (.ref A.longest)
  m_total_webs : mg "total_webs" = some (.ref A.total)
  m_Laid : mg "Laid" = some (.ref A.Laid)
  cl_Laid : Cls K A.Laid
  mk_Laid : Mk K A.Laid A.Laid_init
  n_Laid_past : NoAttr K A.Laid "past"
  n_Laid_row : NoAttr K A.Laid "row"
  n_Laid_web : NoAttr K A.Laid "web"
  F_Laid_init : Fun K "__init__" "Laid.__init__" s_Laid_init A.Laid_init D.Laid_init
  b_Laid_init : Binds K D.Laid_init ["self", "web", "order"] []
  F_Laid_lay : Fun K "lay" "Laid.lay" s_Laid_lay A.Laid_lay D.Laid_lay
  me_Laid_lay : Meth K A.Laid "lay" A.Laid_lay
  b_Laid_lay : Binds K D.Laid_lay ["self", "row"] []
  F_Laid_swap : Fun K "swap" "Laid.swap" s_Laid_swap A.Laid_swap D.Laid_swap
  me_Laid_swap : Meth K A.Laid "swap" A.Laid_swap
  b_Laid_swap : Binds K D.Laid_swap ["self", "one", "other"] []
  F_Laid_move : Fun K "move" "Laid.move" s_Laid_move A.Laid_move D.Laid_move
  me_Laid_move : Meth K A.Laid "move" A.Laid_move
  b_Laid_move : Binds K D.Laid_move ["self", "one", "other"] []
  F_Laid_turn : Fun K "turn" "Laid.turn" s_Laid_turn A.Laid_turn D.Laid_turn
  me_Laid_turn : Meth K A.Laid "turn" A.Laid_turn
  b_Laid_turn : Binds K D.Laid_turn ["self", "one", "other"] []
  F_Laid_back : Fun K "back" "Laid.back" s_Laid_back A.Laid_back D.Laid_back
  me_Laid_back : Meth K A.Laid "back" A.Laid_back
  b_Laid_back : Binds K D.Laid_back ["self"] []
  F_Laid_order : Fun K "order" "Laid.order" s_Laid_order A.Laid_order D.Laid_order
  me_Laid_order : Meth K A.Laid "order" A.Laid_order
  b_Laid_order : Binds K D.Laid_order ["self"] []
  F_Laid_gaps : Fun K "gaps" "Laid.gaps" s_Laid_gaps A.Laid_gaps D.Laid_gaps
  me_Laid_gaps : Meth K A.Laid "gaps" A.Laid_gaps
  b_Laid_gaps : Binds K D.Laid_gaps ["self"] []
  F_Laid_longest : Fun K "longest" "Laid.longest" s_Laid_longest A.Laid_longest D.Laid_longest
  me_Laid_longest : Meth K A.Laid "longest" A.Laid_longest
  b_Laid_longest : Binds K D.Laid_longest ["self"] []
  F_Laid_total : Fun K "total" "Laid.total" s_Laid_total A.Laid_total D.Laid_total
  me_Laid_total : Meth K A.Laid "total" A.Laid_total
  b_Laid_total : Binds K D.Laid_total ["self"] []
  F_Laid_best_swap : Fun K "best_swap" "Laid.best_swap" s_Laid_best_swap A.Laid_best_swap D.Laid_best_swap
  me_Laid_best_swap : Meth K A.Laid "best_swap" A.Laid_best_swap
  b_Laid_best_swap : Binds K D.Laid_best_swap ["self"] []
  z_abs : mg "abs" = none
  z_bool : mg "bool" = none
  z_enumerate : mg "enumerate" = none
  z_int : mg "int" = none
  z_isinstance : mg "isinstance" = none
  z_len : mg "len" = none
  z_list : mg "list" = none
  z_max : mg "max" = none
  z_min : mg "min" = none
  z_range : mg "range" = none
  z_reversed : mg "reversed" = none
  z_sorted : mg "sorted" = none
  z_sum : mg "sum" = none
  z_tuple : mg "tuple" = none
  z_zip : mg "zip" = none
  z_ValueError : mg "ValueError" = none
  k_bool_bool : PySem.W.kitOne K (.type "bool") (.type "bool") = some true
  k_bool_int : PySem.W.kitOne K (.type "bool") (.type "int") = some true
  k_bool_str : PySem.W.kitOne K (.type "bool") (.type "str") = some false
  k_bool_list : PySem.W.kitOne K (.type "bool") (.type "list") = some false
  k_bool_tuple : PySem.W.kitOne K (.type "bool") (.type "tuple") = some false
  k_int_bool : PySem.W.kitOne K (.type "int") (.type "bool") = some false
  k_int_int : PySem.W.kitOne K (.type "int") (.type "int") = some true
  k_int_str : PySem.W.kitOne K (.type "int") (.type "str") = some false
  k_int_list : PySem.W.kitOne K (.type "int") (.type "list") = some false
  k_int_tuple : PySem.W.kitOne K (.type "int") (.type "tuple") = some false
  k_str_bool : PySem.W.kitOne K (.type "str") (.type "bool") = some false
  k_str_int : PySem.W.kitOne K (.type "str") (.type "int") = some false
  k_str_str : PySem.W.kitOne K (.type "str") (.type "str") = some true
  k_str_list : PySem.W.kitOne K (.type "str") (.type "list") = some false
  k_str_tuple : PySem.W.kitOne K (.type "str") (.type "tuple") = some false
  k_list_bool : PySem.W.kitOne K (.type "list") (.type "bool") = some false
  k_list_int : PySem.W.kitOne K (.type "list") (.type "int") = some false
  k_list_str : PySem.W.kitOne K (.type "list") (.type "str") = some false
  k_list_list : PySem.W.kitOne K (.type "list") (.type "list") = some true
  k_list_tuple : PySem.W.kitOne K (.type "list") (.type "tuple") = some false
  k_tuple_bool : PySem.W.kitOne K (.type "tuple") (.type "bool") = some false
  k_tuple_int : PySem.W.kitOne K (.type "tuple") (.type "int") = some false
  k_tuple_str : PySem.W.kitOne K (.type "tuple") (.type "str") = some false
  k_tuple_list : PySem.W.kitOne K (.type "tuple") (.type "list") = some false
  k_tuple_tuple : PySem.W.kitOne K (.type "tuple") (.type "tuple") = some true
theorem txt_mk {K : PySem.W.Frag} {h : Heap} {mg : Str → Option Value} (X : K.In h) (G : h.Ns mainGlobals mg)
    {f_is_whole : Addr} {od0 an0 : Option Addr} {sl0 : Array (Option Value)} {oc0 kV0 dc0 pm0 cd0 ct0 : Value}
    {f_is_within : Addr} {od1 an1 : Option Addr} {sl1 : Array (Option Value)} {oc1 kV1 dc1 pm1 cd1 ct1 : Value}
    {f_is_tie : Addr} {od2 an2 : Option Addr} {sl2 : Array (Option Value)} {oc2 kV2 dc2 pm2 cd2 ct2 : Value}
    {f_look_ties : Addr} {od3 an3 : Option Addr} {sl3 : Array (Option Value)} {oc3 kV3 dc3 pm3 cd3 ct3 : Value}
    {f_look_web : Addr} {od4 an4 : Option Addr} {sl4 : Array (Option Value)} {oc4 kV4 dc4 pm4 cd4 ct4 : Value}
    {f_look_order : Addr} {od5 an5 : Option Addr} {sl5 : Array (Option Value)} {oc5 kV5 dc5 pm5 cd5 ct5 : Value}
    {f_look_both : Addr} {od6 an6 : Option Addr} {sl6 : Array (Option Value)} {oc6 kV6 dc6 pm6 cd6 ct6 : Value}
    {f_spots_of : Addr} {od7 an7 : Option Addr} {sl7 : Array (Option Value)} {oc7 kV7 dc7 pm7 cd7 ct7 : Value}
    {f_lengths : Addr} {od8 an8 : Option Addr} {sl8 : Array (Option Value)} {oc8 kV8 dc8 pm8 cd8 ct8 : Value}
    {f_gaps : Addr} {od9 an9 : Option Addr} {sl9 : Array (Option Value)} {oc9 kV9 dc9 pm9 cd9 ct9 : Value}
    {f_longest : Addr} {od10 an10 : Option Addr} {sl10 : Array (Option Value)} {oc10 kV10 dc10 pm10 cd10 ct10 : Value}
    {f_total : Addr} {od11 an11 : Option Addr} {sl11 : Array (Option Value)} {oc11 kV11 dc11 pm11 cd11 ct11 : Value}
    {f_look_spots : Addr} {od12 an12 : Option Addr} {sl12 : Array (Option Value)} {oc12 kV12 dc12 pm12 cd12 ct12 : Value}
    {f_swapped : Addr} {od13 an13 : Option Addr} {sl13 : Array (Option Value)} {oc13 kV13 dc13 pm13 cd13 ct13 : Value}
    {f_moved : Addr} {od14 an14 : Option Addr} {sl14 : Array (Option Value)} {oc14 kV14 dc14 pm14 cd14 ct14 : Value}
    {f_turned : Addr} {od15 an15 : Option Addr} {sl15 : Array (Option Value)} {oc15 kV15 dc15 pm15 cd15 ct15 : Value}
    {f_law_cell : Addr} {od16 an16 : Option Addr} {sl16 : Array (Option Value)} {oc16 kV16 dc16 pm16 cd16 ct16 : Value}
    {f_law_mix : Addr} {od17 an17 : Option Addr} {sl17 : Array (Option Value)} {oc17 kV17 dc17 pm17 cd17 ct17 : Value}
    {f_law_whole : Addr} {od18 an18 : Option Addr} {sl18 : Array (Option Value)} {oc18 kV18 dc18 pm18 cd18 ct18 : Value}
    {f_law_web : Addr} {od19 an19 : Option Addr} {sl19 : Array (Option Value)} {oc19 kV19 dc19 pm19 cd19 ct19 : Value}
    {f_law_order : Addr} {od20 an20 : Option Addr} {sl20 : Array (Option Value)} {oc20 kV20 dc20 pm20 cd20 ct20 : Value}
    {f_law_lengths : Addr} {od21 an21 : Option Addr} {sl21 : Array (Option Value)} {oc21 kV21 dc21 pm21 cd21 ct21 : Value}
    {f_law_gaps : Addr} {od22 an22 : Option Addr} {sl22 : Array (Option Value)} {oc22 kV22 dc22 pm22 cd22 ct22 : Value}
    {f_law_measured : Addr} {od23 an23 : Option Addr} {sl23 : Array (Option Value)} {oc23 kV23 dc23 pm23 cd23 ct23 : Value}
    {f_law_refusal : Addr} {od24 an24 : Option Addr} {sl24 : Array (Option Value)} {oc24 kV24 dc24 pm24 cd24 ct24 : Value}
    {f_law_done : Addr} {od25 an25 : Option Addr} {sl25 : Array (Option Value)} {oc25 kV25 dc25 pm25 cd25 ct25 : Value}
    {f_law_made : Addr} {od26 an26 : Option Addr} {sl26 : Array (Option Value)} {oc26 kV26 dc26 pm26 cd26 ct26 : Value}
    {f_law_deed : Addr} {od27 an27 : Option Addr} {sl27 : Array (Option Value)} {oc27 kV27 dc27 pm27 cd27 ct27 : Value}
    {f_law_best : Addr} {od28 an28 : Option Addr} {sl28 : Array (Option Value)} {oc28 kV28 dc28 pm28 cd28 ct28 : Value}
    {f_law_same : Addr} {od29 an29 : Option Addr} {sl29 : Array (Option Value)} {oc29 kV29 dc29 pm29 cd29 ct29 : Value}
    {f_law : Addr} {od30 an30 : Option Addr} {sl30 : Array (Option Value)} {oc30 kV30 dc30 pm30 cd30 ct30 : Value}
    {f_LayError : Addr}
    {f_BadWeb : Addr}
    {cl_BadWeb : ClassData}
    {f_BadOrder : Addr}
    {cl_BadOrder : ClassData}
    {f_BadSpot : Addr}
    {cl_BadSpot : ClassData}
    {f_BadKind : Addr}
    {cl_BadKind : ClassData}
    {f_BadText : Addr}
    {cl_BadText : ClassData}
    {t_MOST_PLACES : Tok}
    {t_MOST_WEIGHT : Tok}
    {f_Laid : Addr}
    {f_Laid_init : Addr} {cod0_0 can0_0 : Option Addr} {csl0_0 : Array (Option Value)} {coc0_0 ckV0_0 cdc0_0 cpm0_0 ccd0_0 cct0_0 : Value}
    {f_Laid_lay : Addr} {cod0_1 can0_1 : Option Addr} {csl0_1 : Array (Option Value)} {coc0_1 ckV0_1 cdc0_1 cpm0_1 ccd0_1 cct0_1 : Value}
    {f_Laid_swap : Addr} {cod0_2 can0_2 : Option Addr} {csl0_2 : Array (Option Value)} {coc0_2 ckV0_2 cdc0_2 cpm0_2 ccd0_2 cct0_2 : Value}
    {f_Laid_move : Addr} {cod0_3 can0_3 : Option Addr} {csl0_3 : Array (Option Value)} {coc0_3 ckV0_3 cdc0_3 cpm0_3 ccd0_3 cct0_3 : Value}
    {f_Laid_turn : Addr} {cod0_4 can0_4 : Option Addr} {csl0_4 : Array (Option Value)} {coc0_4 ckV0_4 cdc0_4 cpm0_4 ccd0_4 cct0_4 : Value}
    {f_Laid_back : Addr} {cod0_5 can0_5 : Option Addr} {csl0_5 : Array (Option Value)} {coc0_5 ckV0_5 cdc0_5 cpm0_5 ccd0_5 cct0_5 : Value}
    {f_Laid_order : Addr} {cod0_6 can0_6 : Option Addr} {csl0_6 : Array (Option Value)} {coc0_6 ckV0_6 cdc0_6 cpm0_6 ccd0_6 cct0_6 : Value}
    {f_Laid_gaps : Addr} {cod0_7 can0_7 : Option Addr} {csl0_7 : Array (Option Value)} {coc0_7 ckV0_7 cdc0_7 cpm0_7 ccd0_7 cct0_7 : Value}
    {f_Laid_longest : Addr} {cod0_8 can0_8 : Option Addr} {csl0_8 : Array (Option Value)} {coc0_8 ckV0_8 cdc0_8 cpm0_8 ccd0_8 cct0_8 : Value}
    {f_Laid_total : Addr} {cod0_9 can0_9 : Option Addr} {csl0_9 : Array (Option Value)} {coc0_9 ckV0_9 cdc0_9 cpm0_9 ccd0_9 cct0_9 : Value}
    {f_Laid_best_swap : Addr} {cod0_10 can0_10 : Option Addr} {csl0_10 : Array (Option Value)} {coc0_10 ckV0_10 cdc0_10 cpm0_10 ccd0_10 cct0_10 : Value}
    (a_is_whole : PySem.W.nsIn K mainGlobals "is_whole" = some (some (.ref f_is_whole))) (l_is_whole : K.lookup f_is_whole = some ⟨oc0, od0, .func (PySem.W.fnOf "is_whole" "is_whole" (defArgs s_is_whole) (defBody s_is_whole) (defScope s_is_whole) .none kV0 dc0 pm0 an0 cd0 ct0), sl0⟩) (c_is_whole : PySem.W.codeIn K cd0 "is_whole" = true) (k_is_whole : PySem.W.keepIn K (.ref f_is_whole) = true)
    (a_is_within : PySem.W.nsIn K mainGlobals "is_within" = some (some (.ref f_is_within))) (l_is_within : K.lookup f_is_within = some ⟨oc1, od1, .func (PySem.W.fnOf "is_within" "is_within" (defArgs s_is_within) (defBody s_is_within) (defScope s_is_within) .none kV1 dc1 pm1 an1 cd1 ct1), sl1⟩) (c_is_within : PySem.W.codeIn K cd1 "is_within" = true) (k_is_within : PySem.W.keepIn K (.ref f_is_within) = true)
    (a_is_tie : PySem.W.nsIn K mainGlobals "is_tie" = some (some (.ref f_is_tie))) (l_is_tie : K.lookup f_is_tie = some ⟨oc2, od2, .func (PySem.W.fnOf "is_tie" "is_tie" (defArgs s_is_tie) (defBody s_is_tie) (defScope s_is_tie) .none kV2 dc2 pm2 an2 cd2 ct2), sl2⟩) (c_is_tie : PySem.W.codeIn K cd2 "is_tie" = true) (k_is_tie : PySem.W.keepIn K (.ref f_is_tie) = true)
    (a_look_ties : PySem.W.nsIn K mainGlobals "look_ties" = some (some (.ref f_look_ties))) (l_look_ties : K.lookup f_look_ties = some ⟨oc3, od3, .func (PySem.W.fnOf "look_ties" "look_ties" (defArgs s_look_ties) (defBody s_look_ties) (defScope s_look_ties) .none kV3 dc3 pm3 an3 cd3 ct3), sl3⟩) (c_look_ties : PySem.W.codeIn K cd3 "look_ties" = true) (k_look_ties : PySem.W.keepIn K (.ref f_look_ties) = true)
    (a_look_web : PySem.W.nsIn K mainGlobals "look_web" = some (some (.ref f_look_web))) (l_look_web : K.lookup f_look_web = some ⟨oc4, od4, .func (PySem.W.fnOf "look_web" "look_web" (defArgs s_look_web) (defBody s_look_web) (defScope s_look_web) .none kV4 dc4 pm4 an4 cd4 ct4), sl4⟩) (c_look_web : PySem.W.codeIn K cd4 "look_web" = true) (k_look_web : PySem.W.keepIn K (.ref f_look_web) = true)
    (a_look_order : PySem.W.nsIn K mainGlobals "look_order" = some (some (.ref f_look_order))) (l_look_order : K.lookup f_look_order = some ⟨oc5, od5, .func (PySem.W.fnOf "look_order" "look_order" (defArgs s_look_order) (defBody s_look_order) (defScope s_look_order) .none kV5 dc5 pm5 an5 cd5 ct5), sl5⟩) (c_look_order : PySem.W.codeIn K cd5 "look_order" = true) (k_look_order : PySem.W.keepIn K (.ref f_look_order) = true)
    (a_look_both : PySem.W.nsIn K mainGlobals "look_both" = some (some (.ref f_look_both))) (l_look_both : K.lookup f_look_both = some ⟨oc6, od6, .func (PySem.W.fnOf "look_both" "look_both" (defArgs s_look_both) (defBody s_look_both) (defScope s_look_both) .none kV6 dc6 pm6 an6 cd6 ct6), sl6⟩) (c_look_both : PySem.W.codeIn K cd6 "look_both" = true) (k_look_both : PySem.W.keepIn K (.ref f_look_both) = true)
    (a_spots_of : PySem.W.nsIn K mainGlobals "spots_of" = some (some (.ref f_spots_of))) (l_spots_of : K.lookup f_spots_of = some ⟨oc7, od7, .func (PySem.W.fnOf "spots_of" "spots_of" (defArgs s_spots_of) (defBody s_spots_of) (defScope s_spots_of) .none kV7 dc7 pm7 an7 cd7 ct7), sl7⟩) (c_spots_of : PySem.W.codeIn K cd7 "spots_of" = true) (k_spots_of : PySem.W.keepIn K (.ref f_spots_of) = true)
    (a_lengths : PySem.W.nsIn K mainGlobals "lengths" = some (some (.ref f_lengths))) (l_lengths : K.lookup f_lengths = some ⟨oc8, od8, .func (PySem.W.fnOf "lengths" "lengths" (defArgs s_lengths) (defBody s_lengths) (defScope s_lengths) .none kV8 dc8 pm8 an8 cd8 ct8), sl8⟩) (c_lengths : PySem.W.codeIn K cd8 "lengths" = true) (k_lengths : PySem.W.keepIn K (.ref f_lengths) = true)
    (a_gaps : PySem.W.nsIn K mainGlobals "gaps" = some (some (.ref f_gaps))) (l_gaps : K.lookup f_gaps = some ⟨oc9, od9, .func (PySem.W.fnOf "gaps" "gaps" (defArgs s_gaps) (defBody s_gaps) (defScope s_gaps) .none kV9 dc9 pm9 an9 cd9 ct9), sl9⟩) (c_gaps : PySem.W.codeIn K cd9 "gaps" = true) (k_gaps : PySem.W.keepIn K (.ref f_gaps) = true)
    (a_longest : PySem.W.nsIn K mainGlobals "longest" = some (some (.ref f_longest))) (l_longest : K.lookup f_longest = some ⟨oc10, od10, .func (PySem.W.fnOf "longest" "longest" (defArgs s_longest) (defBody s_longest) (defScope s_longest) .none kV10 dc10 pm10 an10 cd10 ct10), sl10⟩) (c_longest : PySem.W.codeIn K cd10 "longest" = true) (k_longest : PySem.W.keepIn K (.ref f_longest) = true)
    (a_total : PySem.W.nsIn K mainGlobals "total" = some (some (.ref f_total))) (l_total : K.lookup f_total = some ⟨oc11, od11, .func (PySem.W.fnOf "total" "total" (defArgs s_total) (defBody s_total) (defScope s_total) .none kV11 dc11 pm11 an11 cd11 ct11), sl11⟩) (c_total : PySem.W.codeIn K cd11 "total" = true) (k_total : PySem.W.keepIn K (.ref f_total) = true)
    (a_look_spots : PySem.W.nsIn K mainGlobals "look_spots" = some (some (.ref f_look_spots))) (l_look_spots : K.lookup f_look_spots = some ⟨oc12, od12, .func (PySem.W.fnOf "look_spots" "look_spots" (defArgs s_look_spots) (defBody s_look_spots) (defScope s_look_spots) .none kV12 dc12 pm12 an12 cd12 ct12), sl12⟩) (c_look_spots : PySem.W.codeIn K cd12 "look_spots" = true) (k_look_spots : PySem.W.keepIn K (.ref f_look_spots) = true)
    (a_swapped : PySem.W.nsIn K mainGlobals "swapped" = some (some (.ref f_swapped))) (l_swapped : K.lookup f_swapped = some ⟨oc13, od13, .func (PySem.W.fnOf "swapped" "swapped" (defArgs s_swapped) (defBody s_swapped) (defScope s_swapped) .none kV13 dc13 pm13 an13 cd13 ct13), sl13⟩) (c_swapped : PySem.W.codeIn K cd13 "swapped" = true) (k_swapped : PySem.W.keepIn K (.ref f_swapped) = true)
    (a_moved : PySem.W.nsIn K mainGlobals "moved" = some (some (.ref f_moved))) (l_moved : K.lookup f_moved = some ⟨oc14, od14, .func (PySem.W.fnOf "moved" "moved" (defArgs s_moved) (defBody s_moved) (defScope s_moved) .none kV14 dc14 pm14 an14 cd14 ct14), sl14⟩) (c_moved : PySem.W.codeIn K cd14 "moved" = true) (k_moved : PySem.W.keepIn K (.ref f_moved) = true)
    (a_turned : PySem.W.nsIn K mainGlobals "turned" = some (some (.ref f_turned))) (l_turned : K.lookup f_turned = some ⟨oc15, od15, .func (PySem.W.fnOf "turned" "turned" (defArgs s_turned) (defBody s_turned) (defScope s_turned) .none kV15 dc15 pm15 an15 cd15 ct15), sl15⟩) (c_turned : PySem.W.codeIn K cd15 "turned" = true) (k_turned : PySem.W.keepIn K (.ref f_turned) = true)
    (a_law_cell : PySem.W.nsIn K mainGlobals "_law_cell" = some (some (.ref f_law_cell))) (l_law_cell : K.lookup f_law_cell = some ⟨oc16, od16, .func (PySem.W.fnOf "_law_cell" "_law_cell" (defArgs s_law_cell) (defBody s_law_cell) (defScope s_law_cell) .none kV16 dc16 pm16 an16 cd16 ct16), sl16⟩) (c_law_cell : PySem.W.codeIn K cd16 "_law_cell" = true) (k_law_cell : PySem.W.keepIn K (.ref f_law_cell) = true)
    (a_law_mix : PySem.W.nsIn K mainGlobals "_law_mix" = some (some (.ref f_law_mix))) (l_law_mix : K.lookup f_law_mix = some ⟨oc17, od17, .func (PySem.W.fnOf "_law_mix" "_law_mix" (defArgs s_law_mix) (defBody s_law_mix) (defScope s_law_mix) .none kV17 dc17 pm17 an17 cd17 ct17), sl17⟩) (c_law_mix : PySem.W.codeIn K cd17 "_law_mix" = true) (k_law_mix : PySem.W.keepIn K (.ref f_law_mix) = true)
    (a_law_whole : PySem.W.nsIn K mainGlobals "_law_whole" = some (some (.ref f_law_whole))) (l_law_whole : K.lookup f_law_whole = some ⟨oc18, od18, .func (PySem.W.fnOf "_law_whole" "_law_whole" (defArgs s_law_whole) (defBody s_law_whole) (defScope s_law_whole) .none kV18 dc18 pm18 an18 cd18 ct18), sl18⟩) (c_law_whole : PySem.W.codeIn K cd18 "_law_whole" = true) (k_law_whole : PySem.W.keepIn K (.ref f_law_whole) = true)
    (a_law_web : PySem.W.nsIn K mainGlobals "_law_web" = some (some (.ref f_law_web))) (l_law_web : K.lookup f_law_web = some ⟨oc19, od19, .func (PySem.W.fnOf "_law_web" "_law_web" (defArgs s_law_web) (defBody s_law_web) (defScope s_law_web) .none kV19 dc19 pm19 an19 cd19 ct19), sl19⟩) (c_law_web : PySem.W.codeIn K cd19 "_law_web" = true) (k_law_web : PySem.W.keepIn K (.ref f_law_web) = true)
    (a_law_order : PySem.W.nsIn K mainGlobals "_law_order" = some (some (.ref f_law_order))) (l_law_order : K.lookup f_law_order = some ⟨oc20, od20, .func (PySem.W.fnOf "_law_order" "_law_order" (defArgs s_law_order) (defBody s_law_order) (defScope s_law_order) .none kV20 dc20 pm20 an20 cd20 ct20), sl20⟩) (c_law_order : PySem.W.codeIn K cd20 "_law_order" = true) (k_law_order : PySem.W.keepIn K (.ref f_law_order) = true)
    (a_law_lengths : PySem.W.nsIn K mainGlobals "_law_lengths" = some (some (.ref f_law_lengths))) (l_law_lengths : K.lookup f_law_lengths = some ⟨oc21, od21, .func (PySem.W.fnOf "_law_lengths" "_law_lengths" (defArgs s_law_lengths) (defBody s_law_lengths) (defScope s_law_lengths) .none kV21 dc21 pm21 an21 cd21 ct21), sl21⟩) (c_law_lengths : PySem.W.codeIn K cd21 "_law_lengths" = true) (k_law_lengths : PySem.W.keepIn K (.ref f_law_lengths) = true)
    (a_law_gaps : PySem.W.nsIn K mainGlobals "_law_gaps" = some (some (.ref f_law_gaps))) (l_law_gaps : K.lookup f_law_gaps = some ⟨oc22, od22, .func (PySem.W.fnOf "_law_gaps" "_law_gaps" (defArgs s_law_gaps) (defBody s_law_gaps) (defScope s_law_gaps) .none kV22 dc22 pm22 an22 cd22 ct22), sl22⟩) (c_law_gaps : PySem.W.codeIn K cd22 "_law_gaps" = true) (k_law_gaps : PySem.W.keepIn K (.ref f_law_gaps) = true)
    (a_law_measured : PySem.W.nsIn K mainGlobals "_law_measured" = some (some (.ref f_law_measured))) (l_law_measured : K.lookup f_law_measured = some ⟨oc23, od23, .func (PySem.W.fnOf "_law_measured" "_law_measured" (defArgs s_law_measured) (defBody s_law_measured) (defScope s_law_measured) .none kV23 dc23 pm23 an23 cd23 ct23), sl23⟩) (c_law_measured : PySem.W.codeIn K cd23 "_law_measured" = true) (k_law_measured : PySem.W.keepIn K (.ref f_law_measured) = true)
    (a_law_refusal : PySem.W.nsIn K mainGlobals "_law_refusal" = some (some (.ref f_law_refusal))) (l_law_refusal : K.lookup f_law_refusal = some ⟨oc24, od24, .func (PySem.W.fnOf "_law_refusal" "_law_refusal" (defArgs s_law_refusal) (defBody s_law_refusal) (defScope s_law_refusal) .none kV24 dc24 pm24 an24 cd24 ct24), sl24⟩) (c_law_refusal : PySem.W.codeIn K cd24 "_law_refusal" = true) (k_law_refusal : PySem.W.keepIn K (.ref f_law_refusal) = true)
    (a_law_done : PySem.W.nsIn K mainGlobals "_law_done" = some (some (.ref f_law_done))) (l_law_done : K.lookup f_law_done = some ⟨oc25, od25, .func (PySem.W.fnOf "_law_done" "_law_done" (defArgs s_law_done) (defBody s_law_done) (defScope s_law_done) .none kV25 dc25 pm25 an25 cd25 ct25), sl25⟩) (c_law_done : PySem.W.codeIn K cd25 "_law_done" = true) (k_law_done : PySem.W.keepIn K (.ref f_law_done) = true)
    (a_law_made : PySem.W.nsIn K mainGlobals "_law_made" = some (some (.ref f_law_made))) (l_law_made : K.lookup f_law_made = some ⟨oc26, od26, .func (PySem.W.fnOf "_law_made" "_law_made" (defArgs s_law_made) (defBody s_law_made) (defScope s_law_made) .none kV26 dc26 pm26 an26 cd26 ct26), sl26⟩) (c_law_made : PySem.W.codeIn K cd26 "_law_made" = true) (k_law_made : PySem.W.keepIn K (.ref f_law_made) = true)
    (a_law_deed : PySem.W.nsIn K mainGlobals "_law_deed" = some (some (.ref f_law_deed))) (l_law_deed : K.lookup f_law_deed = some ⟨oc27, od27, .func (PySem.W.fnOf "_law_deed" "_law_deed" (defArgs s_law_deed) (defBody s_law_deed) (defScope s_law_deed) .none kV27 dc27 pm27 an27 cd27 ct27), sl27⟩) (c_law_deed : PySem.W.codeIn K cd27 "_law_deed" = true) (k_law_deed : PySem.W.keepIn K (.ref f_law_deed) = true)
    (a_law_best : PySem.W.nsIn K mainGlobals "_law_best" = some (some (.ref f_law_best))) (l_law_best : K.lookup f_law_best = some ⟨oc28, od28, .func (PySem.W.fnOf "_law_best" "_law_best" (defArgs s_law_best) (defBody s_law_best) (defScope s_law_best) .none kV28 dc28 pm28 an28 cd28 ct28), sl28⟩) (c_law_best : PySem.W.codeIn K cd28 "_law_best" = true) (k_law_best : PySem.W.keepIn K (.ref f_law_best) = true)
    (a_law_same : PySem.W.nsIn K mainGlobals "_law_same" = some (some (.ref f_law_same))) (l_law_same : K.lookup f_law_same = some ⟨oc29, od29, .func (PySem.W.fnOf "_law_same" "_law_same" (defArgs s_law_same) (defBody s_law_same) (defScope s_law_same) .none kV29 dc29 pm29 an29 cd29 ct29), sl29⟩) (c_law_same : PySem.W.codeIn K cd29 "_law_same" = true) (k_law_same : PySem.W.keepIn K (.ref f_law_same) = true)
    (a_law : PySem.W.nsIn K mainGlobals "law" = some (some (.ref f_law))) (l_law : K.lookup f_law = some ⟨oc30, od30, .func (PySem.W.fnOf "law" "law" (defArgs s_law) (defBody s_law) (defScope s_law) .none kV30 dc30 pm30 an30 cd30 ct30), sl30⟩) (c_law : PySem.W.codeIn K cd30 "law" = true) (k_law : PySem.W.keepIn K (.ref f_law) = true)
    (a_LayError : PySem.W.nsIn K mainGlobals "LayError" = some (some (.ref f_LayError))) (x_LayError : PySem.W.excIn K f_LayError bmV "ValueError.__new__" = true)
    (a_BadWeb : PySem.W.nsIn K mainGlobals "BadWeb" = some (some (.ref f_BadWeb))) (x_BadWeb : PySem.W.excIn K f_BadWeb bmV "ValueError.__new__" = true)
    (e1_BadWeb : PySem.W.findIn K (.ref f_BadWeb) "__getattribute__" = some (some (.builtin "BaseException.__getattribute__"))) (e2_BadWeb : PySem.W.findIn K (.ref f_BadWeb) "__getattr__" = some none) (e3_BadWeb : PySem.W.findIn K (.ref f_BadWeb) "__class__" = some (some (.builtin "object.__class__")))
    (e4_BadWeb : PySem.W.mroIn K f_BadWeb (.type "object") = some true) (e5_BadWeb : PySem.W.mroIn K f_BadWeb (.type "BaseException") = some true) (e6_BadWeb : PySem.W.clsIn K f_BadWeb = some cl_BadWeb) (s_BadWeb : PySem.W.mroIn K f_BadWeb (.ref f_LayError) = some true) (v_BadWeb : PySem.W.kitOne K (.ref f_BadWeb) (.type "ValueError") = some true)
    (a_BadOrder : PySem.W.nsIn K mainGlobals "BadOrder" = some (some (.ref f_BadOrder))) (x_BadOrder : PySem.W.excIn K f_BadOrder bmV "ValueError.__new__" = true)
    (e1_BadOrder : PySem.W.findIn K (.ref f_BadOrder) "__getattribute__" = some (some (.builtin "BaseException.__getattribute__"))) (e2_BadOrder : PySem.W.findIn K (.ref f_BadOrder) "__getattr__" = some none) (e3_BadOrder : PySem.W.findIn K (.ref f_BadOrder) "__class__" = some (some (.builtin "object.__class__")))
    (e4_BadOrder : PySem.W.mroIn K f_BadOrder (.type "object") = some true) (e5_BadOrder : PySem.W.mroIn K f_BadOrder (.type "BaseException") = some true) (e6_BadOrder : PySem.W.clsIn K f_BadOrder = some cl_BadOrder) (s_BadOrder : PySem.W.mroIn K f_BadOrder (.ref f_LayError) = some true) (v_BadOrder : PySem.W.kitOne K (.ref f_BadOrder) (.type "ValueError") = some true)
    (a_BadSpot : PySem.W.nsIn K mainGlobals "BadSpot" = some (some (.ref f_BadSpot))) (x_BadSpot : PySem.W.excIn K f_BadSpot bmV "ValueError.__new__" = true)
    (e1_BadSpot : PySem.W.findIn K (.ref f_BadSpot) "__getattribute__" = some (some (.builtin "BaseException.__getattribute__"))) (e2_BadSpot : PySem.W.findIn K (.ref f_BadSpot) "__getattr__" = some none) (e3_BadSpot : PySem.W.findIn K (.ref f_BadSpot) "__class__" = some (some (.builtin "object.__class__")))
    (e4_BadSpot : PySem.W.mroIn K f_BadSpot (.type "object") = some true) (e5_BadSpot : PySem.W.mroIn K f_BadSpot (.type "BaseException") = some true) (e6_BadSpot : PySem.W.clsIn K f_BadSpot = some cl_BadSpot) (s_BadSpot : PySem.W.mroIn K f_BadSpot (.ref f_LayError) = some true) (v_BadSpot : PySem.W.kitOne K (.ref f_BadSpot) (.type "ValueError") = some true)
    (a_BadKind : PySem.W.nsIn K mainGlobals "BadKind" = some (some (.ref f_BadKind))) (x_BadKind : PySem.W.excIn K f_BadKind bmV "ValueError.__new__" = true)
    (e1_BadKind : PySem.W.findIn K (.ref f_BadKind) "__getattribute__" = some (some (.builtin "BaseException.__getattribute__"))) (e2_BadKind : PySem.W.findIn K (.ref f_BadKind) "__getattr__" = some none) (e3_BadKind : PySem.W.findIn K (.ref f_BadKind) "__class__" = some (some (.builtin "object.__class__")))
    (e4_BadKind : PySem.W.mroIn K f_BadKind (.type "object") = some true) (e5_BadKind : PySem.W.mroIn K f_BadKind (.type "BaseException") = some true) (e6_BadKind : PySem.W.clsIn K f_BadKind = some cl_BadKind) (s_BadKind : PySem.W.mroIn K f_BadKind (.ref f_LayError) = some true) (v_BadKind : PySem.W.kitOne K (.ref f_BadKind) (.type "ValueError") = some true)
    (a_BadText : PySem.W.nsIn K mainGlobals "BadText" = some (some (.ref f_BadText))) (x_BadText : PySem.W.excIn K f_BadText bmV "ValueError.__new__" = true)
    (e1_BadText : PySem.W.findIn K (.ref f_BadText) "__getattribute__" = some (some (.builtin "BaseException.__getattribute__"))) (e2_BadText : PySem.W.findIn K (.ref f_BadText) "__getattr__" = some none) (e3_BadText : PySem.W.findIn K (.ref f_BadText) "__class__" = some (some (.builtin "object.__class__")))
    (e4_BadText : PySem.W.mroIn K f_BadText (.type "object") = some true) (e5_BadText : PySem.W.mroIn K f_BadText (.type "BaseException") = some true) (e6_BadText : PySem.W.clsIn K f_BadText = some cl_BadText) (s_BadText : PySem.W.mroIn K f_BadText (.ref f_LayError) = some true) (v_BadText : PySem.W.kitOne K (.ref f_BadText) (.type "ValueError") = some true)
    (i_BadWeb_BadWeb : PySem.W.kitOne K (.ref f_BadWeb) (.ref f_BadWeb) = some true)
    (i_BadWeb_BadOrder : PySem.W.kitOne K (.ref f_BadWeb) (.ref f_BadOrder) = some false)
    (i_BadWeb_BadSpot : PySem.W.kitOne K (.ref f_BadWeb) (.ref f_BadSpot) = some false)
    (i_BadWeb_BadKind : PySem.W.kitOne K (.ref f_BadWeb) (.ref f_BadKind) = some false)
    (i_BadWeb_BadText : PySem.W.kitOne K (.ref f_BadWeb) (.ref f_BadText) = some false)
    (i_BadOrder_BadWeb : PySem.W.kitOne K (.ref f_BadOrder) (.ref f_BadWeb) = some false)
    (i_BadOrder_BadOrder : PySem.W.kitOne K (.ref f_BadOrder) (.ref f_BadOrder) = some true)
    (i_BadOrder_BadSpot : PySem.W.kitOne K (.ref f_BadOrder) (.ref f_BadSpot) = some false)
    (i_BadOrder_BadKind : PySem.W.kitOne K (.ref f_BadOrder) (.ref f_BadKind) = some false)
    (i_BadOrder_BadText : PySem.W.kitOne K (.ref f_BadOrder) (.ref f_BadText) = some false)
    (i_BadSpot_BadWeb : PySem.W.kitOne K (.ref f_BadSpot) (.ref f_BadWeb) = some false)
    (i_BadSpot_BadOrder : PySem.W.kitOne K (.ref f_BadSpot) (.ref f_BadOrder) = some false)
    (i_BadSpot_BadSpot : PySem.W.kitOne K (.ref f_BadSpot) (.ref f_BadSpot) = some true)
    (i_BadSpot_BadKind : PySem.W.kitOne K (.ref f_BadSpot) (.ref f_BadKind) = some false)
    (i_BadSpot_BadText : PySem.W.kitOne K (.ref f_BadSpot) (.ref f_BadText) = some false)
    (i_BadKind_BadWeb : PySem.W.kitOne K (.ref f_BadKind) (.ref f_BadWeb) = some false)
    (i_BadKind_BadOrder : PySem.W.kitOne K (.ref f_BadKind) (.ref f_BadOrder) = some false)
    (i_BadKind_BadSpot : PySem.W.kitOne K (.ref f_BadKind) (.ref f_BadSpot) = some false)
    (i_BadKind_BadKind : PySem.W.kitOne K (.ref f_BadKind) (.ref f_BadKind) = some true)
    (i_BadKind_BadText : PySem.W.kitOne K (.ref f_BadKind) (.ref f_BadText) = some false)
    (i_BadText_BadWeb : PySem.W.kitOne K (.ref f_BadText) (.ref f_BadWeb) = some false)
    (i_BadText_BadOrder : PySem.W.kitOne K (.ref f_BadText) (.ref f_BadOrder) = some false)
    (i_BadText_BadSpot : PySem.W.kitOne K (.ref f_BadText) (.ref f_BadSpot) = some false)
    (i_BadText_BadKind : PySem.W.kitOne K (.ref f_BadText) (.ref f_BadKind) = some false)
    (i_BadText_BadText : PySem.W.kitOne K (.ref f_BadText) (.ref f_BadText) = some true)
    (g_MOST_PLACES : PySem.W.nsIn K mainGlobals "MOST_PLACES" = some (some (.int 8 t_MOST_PLACES)))
    (g_MOST_WEIGHT : PySem.W.nsIn K mainGlobals "MOST_WEIGHT" = some (some (.int 100 t_MOST_WEIGHT)))
    (a_gaps_webs : PySem.W.nsIn K mainGlobals "gaps_webs" = some (some (.ref f_gaps)))
    (a_longest_webs : PySem.W.nsIn K mainGlobals "longest_webs" = some (some (.ref f_longest)))
    (a_total_webs : PySem.W.nsIn K mainGlobals "total_webs" = some (some (.ref f_total)))
    (a_Laid : PySem.W.nsIn K mainGlobals "Laid" = some (some (.ref f_Laid)))
    (a_Laid_init : PySem.W.findIn K (.ref f_Laid) "__init__" = some (some (.ref f_Laid_init))) (i_Laid_init : PySem.W.isFn K (.ref f_Laid_init) = true) (l_Laid_init : K.lookup f_Laid_init = some ⟨coc0_0, cod0_0, .func (PySem.W.fnOf "__init__" "Laid.__init__" (defArgs s_Laid_init) (defBody s_Laid_init) (defScope s_Laid_init) .none ckV0_0 cdc0_0 cpm0_0 can0_0 ccd0_0 cct0_0), csl0_0⟩) (c_Laid_init : PySem.W.codeIn K ccd0_0 "Laid.__init__" = true) (k_Laid_init : PySem.W.keepIn K (.ref f_Laid_init) = true)
    (a_Laid_lay : PySem.W.findIn K (.ref f_Laid) "lay" = some (some (.ref f_Laid_lay))) (i_Laid_lay : PySem.W.isFn K (.ref f_Laid_lay) = true) (l_Laid_lay : K.lookup f_Laid_lay = some ⟨coc0_1, cod0_1, .func (PySem.W.fnOf "lay" "Laid.lay" (defArgs s_Laid_lay) (defBody s_Laid_lay) (defScope s_Laid_lay) .none ckV0_1 cdc0_1 cpm0_1 can0_1 ccd0_1 cct0_1), csl0_1⟩) (c_Laid_lay : PySem.W.codeIn K ccd0_1 "Laid.lay" = true) (k_Laid_lay : PySem.W.keepIn K (.ref f_Laid_lay) = true)
    (a_Laid_swap : PySem.W.findIn K (.ref f_Laid) "swap" = some (some (.ref f_Laid_swap))) (i_Laid_swap : PySem.W.isFn K (.ref f_Laid_swap) = true) (l_Laid_swap : K.lookup f_Laid_swap = some ⟨coc0_2, cod0_2, .func (PySem.W.fnOf "swap" "Laid.swap" (defArgs s_Laid_swap) (defBody s_Laid_swap) (defScope s_Laid_swap) .none ckV0_2 cdc0_2 cpm0_2 can0_2 ccd0_2 cct0_2), csl0_2⟩) (c_Laid_swap : PySem.W.codeIn K ccd0_2 "Laid.swap" = true) (k_Laid_swap : PySem.W.keepIn K (.ref f_Laid_swap) = true)
    (a_Laid_move : PySem.W.findIn K (.ref f_Laid) "move" = some (some (.ref f_Laid_move))) (i_Laid_move : PySem.W.isFn K (.ref f_Laid_move) = true) (l_Laid_move : K.lookup f_Laid_move = some ⟨coc0_3, cod0_3, .func (PySem.W.fnOf "move" "Laid.move" (defArgs s_Laid_move) (defBody s_Laid_move) (defScope s_Laid_move) .none ckV0_3 cdc0_3 cpm0_3 can0_3 ccd0_3 cct0_3), csl0_3⟩) (c_Laid_move : PySem.W.codeIn K ccd0_3 "Laid.move" = true) (k_Laid_move : PySem.W.keepIn K (.ref f_Laid_move) = true)
    (a_Laid_turn : PySem.W.findIn K (.ref f_Laid) "turn" = some (some (.ref f_Laid_turn))) (i_Laid_turn : PySem.W.isFn K (.ref f_Laid_turn) = true) (l_Laid_turn : K.lookup f_Laid_turn = some ⟨coc0_4, cod0_4, .func (PySem.W.fnOf "turn" "Laid.turn" (defArgs s_Laid_turn) (defBody s_Laid_turn) (defScope s_Laid_turn) .none ckV0_4 cdc0_4 cpm0_4 can0_4 ccd0_4 cct0_4), csl0_4⟩) (c_Laid_turn : PySem.W.codeIn K ccd0_4 "Laid.turn" = true) (k_Laid_turn : PySem.W.keepIn K (.ref f_Laid_turn) = true)
    (a_Laid_back : PySem.W.findIn K (.ref f_Laid) "back" = some (some (.ref f_Laid_back))) (i_Laid_back : PySem.W.isFn K (.ref f_Laid_back) = true) (l_Laid_back : K.lookup f_Laid_back = some ⟨coc0_5, cod0_5, .func (PySem.W.fnOf "back" "Laid.back" (defArgs s_Laid_back) (defBody s_Laid_back) (defScope s_Laid_back) .none ckV0_5 cdc0_5 cpm0_5 can0_5 ccd0_5 cct0_5), csl0_5⟩) (c_Laid_back : PySem.W.codeIn K ccd0_5 "Laid.back" = true) (k_Laid_back : PySem.W.keepIn K (.ref f_Laid_back) = true)
    (a_Laid_order : PySem.W.findIn K (.ref f_Laid) "order" = some (some (.ref f_Laid_order))) (i_Laid_order : PySem.W.isFn K (.ref f_Laid_order) = true) (l_Laid_order : K.lookup f_Laid_order = some ⟨coc0_6, cod0_6, .func (PySem.W.fnOf "order" "Laid.order" (defArgs s_Laid_order) (defBody s_Laid_order) (defScope s_Laid_order) .none ckV0_6 cdc0_6 cpm0_6 can0_6 ccd0_6 cct0_6), csl0_6⟩) (c_Laid_order : PySem.W.codeIn K ccd0_6 "Laid.order" = true) (k_Laid_order : PySem.W.keepIn K (.ref f_Laid_order) = true)
    (a_Laid_gaps : PySem.W.findIn K (.ref f_Laid) "gaps" = some (some (.ref f_Laid_gaps))) (i_Laid_gaps : PySem.W.isFn K (.ref f_Laid_gaps) = true) (l_Laid_gaps : K.lookup f_Laid_gaps = some ⟨coc0_7, cod0_7, .func (PySem.W.fnOf "gaps" "Laid.gaps" (defArgs s_Laid_gaps) (defBody s_Laid_gaps) (defScope s_Laid_gaps) .none ckV0_7 cdc0_7 cpm0_7 can0_7 ccd0_7 cct0_7), csl0_7⟩) (c_Laid_gaps : PySem.W.codeIn K ccd0_7 "Laid.gaps" = true) (k_Laid_gaps : PySem.W.keepIn K (.ref f_Laid_gaps) = true)
    (a_Laid_longest : PySem.W.findIn K (.ref f_Laid) "longest" = some (some (.ref f_Laid_longest))) (i_Laid_longest : PySem.W.isFn K (.ref f_Laid_longest) = true) (l_Laid_longest : K.lookup f_Laid_longest = some ⟨coc0_8, cod0_8, .func (PySem.W.fnOf "longest" "Laid.longest" (defArgs s_Laid_longest) (defBody s_Laid_longest) (defScope s_Laid_longest) .none ckV0_8 cdc0_8 cpm0_8 can0_8 ccd0_8 cct0_8), csl0_8⟩) (c_Laid_longest : PySem.W.codeIn K ccd0_8 "Laid.longest" = true) (k_Laid_longest : PySem.W.keepIn K (.ref f_Laid_longest) = true)
    (a_Laid_total : PySem.W.findIn K (.ref f_Laid) "total" = some (some (.ref f_Laid_total))) (i_Laid_total : PySem.W.isFn K (.ref f_Laid_total) = true) (l_Laid_total : K.lookup f_Laid_total = some ⟨coc0_9, cod0_9, .func (PySem.W.fnOf "total" "Laid.total" (defArgs s_Laid_total) (defBody s_Laid_total) (defScope s_Laid_total) .none ckV0_9 cdc0_9 cpm0_9 can0_9 ccd0_9 cct0_9), csl0_9⟩) (c_Laid_total : PySem.W.codeIn K ccd0_9 "Laid.total" = true) (k_Laid_total : PySem.W.keepIn K (.ref f_Laid_total) = true)
    (a_Laid_best_swap : PySem.W.findIn K (.ref f_Laid) "best_swap" = some (some (.ref f_Laid_best_swap))) (i_Laid_best_swap : PySem.W.isFn K (.ref f_Laid_best_swap) = true) (l_Laid_best_swap : K.lookup f_Laid_best_swap = some ⟨coc0_10, cod0_10, .func (PySem.W.fnOf "best_swap" "Laid.best_swap" (defArgs s_Laid_best_swap) (defBody s_Laid_best_swap) (defScope s_Laid_best_swap) .none ckV0_10 cdc0_10 cpm0_10 can0_10 ccd0_10 cct0_10), csl0_10⟩) (c_Laid_best_swap : PySem.W.codeIn K ccd0_10 "Laid.best_swap" = true) (k_Laid_best_swap : PySem.W.keepIn K (.ref f_Laid_best_swap) = true)
    (pg_Laid : PySem.W.plainGet K f_Laid Str.empty = true) (hd_Laid : PySem.W.hasDictIn K f_Laid = true) (po_Laid : PySem.W.plainOver K f_Laid = true) (sa_Laid : PySem.W.findIn K (.ref f_Laid) "__setattr__" = some (some (.builtin "object.__setattr__"))) (mk_Laid : PySem.W.makesIn K f_Laid = true) (kc_Laid : PySem.W.keepIn K (.ref f_Laid) = true)
    (n_Laid_past : PySem.W.findIn K (.ref f_Laid) "past" = some none)
    (n_Laid_row : PySem.W.findIn K (.ref f_Laid) "row" = some none)
    (n_Laid_web : PySem.W.findIn K (.ref f_Laid) "web" = some none)
    (z_abs : PySem.W.nsIn K mainGlobals "abs" = some none)
    (z_bool : PySem.W.nsIn K mainGlobals "bool" = some none)
    (z_enumerate : PySem.W.nsIn K mainGlobals "enumerate" = some none)
    (z_int : PySem.W.nsIn K mainGlobals "int" = some none)
    (z_isinstance : PySem.W.nsIn K mainGlobals "isinstance" = some none)
    (z_len : PySem.W.nsIn K mainGlobals "len" = some none)
    (z_list : PySem.W.nsIn K mainGlobals "list" = some none)
    (z_max : PySem.W.nsIn K mainGlobals "max" = some none)
    (z_min : PySem.W.nsIn K mainGlobals "min" = some none)
    (z_range : PySem.W.nsIn K mainGlobals "range" = some none)
    (z_reversed : PySem.W.nsIn K mainGlobals "reversed" = some none)
    (z_sorted : PySem.W.nsIn K mainGlobals "sorted" = some none)
    (z_sum : PySem.W.nsIn K mainGlobals "sum" = some none)
    (z_tuple : PySem.W.nsIn K mainGlobals "tuple" = some none)
    (z_zip : PySem.W.nsIn K mainGlobals "zip" = some none)
    (z_ValueError : PySem.W.nsIn K mainGlobals "ValueError" = some none)
    (k_bool_bool : PySem.W.kitOne K (.type "bool") (.type "bool") = some true)
    (k_bool_int : PySem.W.kitOne K (.type "bool") (.type "int") = some true)
    (k_bool_str : PySem.W.kitOne K (.type "bool") (.type "str") = some false)
    (k_bool_list : PySem.W.kitOne K (.type "bool") (.type "list") = some false)
    (k_bool_tuple : PySem.W.kitOne K (.type "bool") (.type "tuple") = some false)
    (k_int_bool : PySem.W.kitOne K (.type "int") (.type "bool") = some false)
    (k_int_int : PySem.W.kitOne K (.type "int") (.type "int") = some true)
    (k_int_str : PySem.W.kitOne K (.type "int") (.type "str") = some false)
    (k_int_list : PySem.W.kitOne K (.type "int") (.type "list") = some false)
    (k_int_tuple : PySem.W.kitOne K (.type "int") (.type "tuple") = some false)
    (k_str_bool : PySem.W.kitOne K (.type "str") (.type "bool") = some false)
    (k_str_int : PySem.W.kitOne K (.type "str") (.type "int") = some false)
    (k_str_str : PySem.W.kitOne K (.type "str") (.type "str") = some true)
    (k_str_list : PySem.W.kitOne K (.type "str") (.type "list") = some false)
    (k_str_tuple : PySem.W.kitOne K (.type "str") (.type "tuple") = some false)
    (k_list_bool : PySem.W.kitOne K (.type "list") (.type "bool") = some false)
    (k_list_int : PySem.W.kitOne K (.type "list") (.type "int") = some false)
    (k_list_str : PySem.W.kitOne K (.type "list") (.type "str") = some false)
    (k_list_list : PySem.W.kitOne K (.type "list") (.type "list") = some true)
    (k_list_tuple : PySem.W.kitOne K (.type "list") (.type "tuple") = some false)
    (k_tuple_bool : PySem.W.kitOne K (.type "tuple") (.type "bool") = some false)
    (k_tuple_int : PySem.W.kitOne K (.type "tuple") (.type "int") = some false)
    (k_tuple_str : PySem.W.kitOne K (.type "tuple") (.type "str") = some false)
    (k_tuple_list : PySem.W.kitOne K (.type "tuple") (.type "list") = some false)
    (k_tuple_tuple : PySem.W.kitOne K (.type "tuple") (.type "tuple") = some true) :
    ∃ (A : Ad) (D : FD), Txt K mg A D := by
  refine ⟨⟨f_is_whole, f_is_within, f_is_tie, f_look_ties, f_look_web, f_look_order, f_look_both, f_spots_of, f_lengths, f_gaps, f_longest, f_total, f_look_spots, f_swapped, f_moved, f_turned, f_law_cell, f_law_mix, f_law_whole, f_law_web, f_law_order, f_law_lengths, f_law_gaps, f_law_measured, f_law_refusal, f_law_done, f_law_made, f_law_deed, f_law_best, f_law_same, f_law, f_LayError, f_BadWeb, f_BadOrder, f_BadSpot, f_BadKind, f_BadText, f_Laid, f_Laid_init, f_Laid_lay, f_Laid_swap, f_Laid_move, f_Laid_turn, f_Laid_back, f_Laid_order, f_Laid_gaps, f_Laid_longest, f_Laid_total, f_Laid_best_swap⟩, ⟨PySem.W.fnOf "is_whole" "is_whole" (defArgs s_is_whole) (defBody s_is_whole) (defScope s_is_whole) .none kV0 dc0 pm0 an0 cd0 ct0, PySem.W.fnOf "is_within" "is_within" (defArgs s_is_within) (defBody s_is_within) (defScope s_is_within) .none kV1 dc1 pm1 an1 cd1 ct1, PySem.W.fnOf "is_tie" "is_tie" (defArgs s_is_tie) (defBody s_is_tie) (defScope s_is_tie) .none kV2 dc2 pm2 an2 cd2 ct2, PySem.W.fnOf "look_ties" "look_ties" (defArgs s_look_ties) (defBody s_look_ties) (defScope s_look_ties) .none kV3 dc3 pm3 an3 cd3 ct3, PySem.W.fnOf "look_web" "look_web" (defArgs s_look_web) (defBody s_look_web) (defScope s_look_web) .none kV4 dc4 pm4 an4 cd4 ct4, PySem.W.fnOf "look_order" "look_order" (defArgs s_look_order) (defBody s_look_order) (defScope s_look_order) .none kV5 dc5 pm5 an5 cd5 ct5, PySem.W.fnOf "look_both" "look_both" (defArgs s_look_both) (defBody s_look_both) (defScope s_look_both) .none kV6 dc6 pm6 an6 cd6 ct6, PySem.W.fnOf "spots_of" "spots_of" (defArgs s_spots_of) (defBody s_spots_of) (defScope s_spots_of) .none kV7 dc7 pm7 an7 cd7 ct7, PySem.W.fnOf "lengths" "lengths" (defArgs s_lengths) (defBody s_lengths) (defScope s_lengths) .none kV8 dc8 pm8 an8 cd8 ct8, PySem.W.fnOf "gaps" "gaps" (defArgs s_gaps) (defBody s_gaps) (defScope s_gaps) .none kV9 dc9 pm9 an9 cd9 ct9, PySem.W.fnOf "longest" "longest" (defArgs s_longest) (defBody s_longest) (defScope s_longest) .none kV10 dc10 pm10 an10 cd10 ct10, PySem.W.fnOf "total" "total" (defArgs s_total) (defBody s_total) (defScope s_total) .none kV11 dc11 pm11 an11 cd11 ct11, PySem.W.fnOf "look_spots" "look_spots" (defArgs s_look_spots) (defBody s_look_spots) (defScope s_look_spots) .none kV12 dc12 pm12 an12 cd12 ct12, PySem.W.fnOf "swapped" "swapped" (defArgs s_swapped) (defBody s_swapped) (defScope s_swapped) .none kV13 dc13 pm13 an13 cd13 ct13, PySem.W.fnOf "moved" "moved" (defArgs s_moved) (defBody s_moved) (defScope s_moved) .none kV14 dc14 pm14 an14 cd14 ct14, PySem.W.fnOf "turned" "turned" (defArgs s_turned) (defBody s_turned) (defScope s_turned) .none kV15 dc15 pm15 an15 cd15 ct15, PySem.W.fnOf "_law_cell" "_law_cell" (defArgs s_law_cell) (defBody s_law_cell) (defScope s_law_cell) .none kV16 dc16 pm16 an16 cd16 ct16, PySem.W.fnOf "_law_mix" "_law_mix" (defArgs s_law_mix) (defBody s_law_mix) (defScope s_law_mix) .none kV17 dc17 pm17 an17 cd17 ct17, PySem.W.fnOf "_law_whole" "_law_whole" (defArgs s_law_whole) (defBody s_law_whole) (defScope s_law_whole) .none kV18 dc18 pm18 an18 cd18 ct18, PySem.W.fnOf "_law_web" "_law_web" (defArgs s_law_web) (defBody s_law_web) (defScope s_law_web) .none kV19 dc19 pm19 an19 cd19 ct19, PySem.W.fnOf "_law_order" "_law_order" (defArgs s_law_order) (defBody s_law_order) (defScope s_law_order) .none kV20 dc20 pm20 an20 cd20 ct20, PySem.W.fnOf "_law_lengths" "_law_lengths" (defArgs s_law_lengths) (defBody s_law_lengths) (defScope s_law_lengths) .none kV21 dc21 pm21 an21 cd21 ct21, PySem.W.fnOf "_law_gaps" "_law_gaps" (defArgs s_law_gaps) (defBody s_law_gaps) (defScope s_law_gaps) .none kV22 dc22 pm22 an22 cd22 ct22, PySem.W.fnOf "_law_measured" "_law_measured" (defArgs s_law_measured) (defBody s_law_measured) (defScope s_law_measured) .none kV23 dc23 pm23 an23 cd23 ct23, PySem.W.fnOf "_law_refusal" "_law_refusal" (defArgs s_law_refusal) (defBody s_law_refusal) (defScope s_law_refusal) .none kV24 dc24 pm24 an24 cd24 ct24, PySem.W.fnOf "_law_done" "_law_done" (defArgs s_law_done) (defBody s_law_done) (defScope s_law_done) .none kV25 dc25 pm25 an25 cd25 ct25, PySem.W.fnOf "_law_made" "_law_made" (defArgs s_law_made) (defBody s_law_made) (defScope s_law_made) .none kV26 dc26 pm26 an26 cd26 ct26, PySem.W.fnOf "_law_deed" "_law_deed" (defArgs s_law_deed) (defBody s_law_deed) (defScope s_law_deed) .none kV27 dc27 pm27 an27 cd27 ct27, PySem.W.fnOf "_law_best" "_law_best" (defArgs s_law_best) (defBody s_law_best) (defScope s_law_best) .none kV28 dc28 pm28 an28 cd28 ct28, PySem.W.fnOf "_law_same" "_law_same" (defArgs s_law_same) (defBody s_law_same) (defScope s_law_same) .none kV29 dc29 pm29 an29 cd29 ct29, PySem.W.fnOf "law" "law" (defArgs s_law) (defBody s_law) (defScope s_law) .none kV30 dc30 pm30 an30 cd30 ct30, PySem.W.fnOf "__init__" "Laid.__init__" (defArgs s_Laid_init) (defBody s_Laid_init) (defScope s_Laid_init) .none ckV0_0 cdc0_0 cpm0_0 can0_0 ccd0_0 cct0_0, PySem.W.fnOf "lay" "Laid.lay" (defArgs s_Laid_lay) (defBody s_Laid_lay) (defScope s_Laid_lay) .none ckV0_1 cdc0_1 cpm0_1 can0_1 ccd0_1 cct0_1, PySem.W.fnOf "swap" "Laid.swap" (defArgs s_Laid_swap) (defBody s_Laid_swap) (defScope s_Laid_swap) .none ckV0_2 cdc0_2 cpm0_2 can0_2 ccd0_2 cct0_2, PySem.W.fnOf "move" "Laid.move" (defArgs s_Laid_move) (defBody s_Laid_move) (defScope s_Laid_move) .none ckV0_3 cdc0_3 cpm0_3 can0_3 ccd0_3 cct0_3, PySem.W.fnOf "turn" "Laid.turn" (defArgs s_Laid_turn) (defBody s_Laid_turn) (defScope s_Laid_turn) .none ckV0_4 cdc0_4 cpm0_4 can0_4 ccd0_4 cct0_4, PySem.W.fnOf "back" "Laid.back" (defArgs s_Laid_back) (defBody s_Laid_back) (defScope s_Laid_back) .none ckV0_5 cdc0_5 cpm0_5 can0_5 ccd0_5 cct0_5, PySem.W.fnOf "order" "Laid.order" (defArgs s_Laid_order) (defBody s_Laid_order) (defScope s_Laid_order) .none ckV0_6 cdc0_6 cpm0_6 can0_6 ccd0_6 cct0_6, PySem.W.fnOf "gaps" "Laid.gaps" (defArgs s_Laid_gaps) (defBody s_Laid_gaps) (defScope s_Laid_gaps) .none ckV0_7 cdc0_7 cpm0_7 can0_7 ccd0_7 cct0_7, PySem.W.fnOf "longest" "Laid.longest" (defArgs s_Laid_longest) (defBody s_Laid_longest) (defScope s_Laid_longest) .none ckV0_8 cdc0_8 cpm0_8 can0_8 ccd0_8 cct0_8, PySem.W.fnOf "total" "Laid.total" (defArgs s_Laid_total) (defBody s_Laid_total) (defScope s_Laid_total) .none ckV0_9 cdc0_9 cpm0_9 can0_9 ccd0_9 cct0_9, PySem.W.fnOf "best_swap" "Laid.best_swap" (defArgs s_Laid_best_swap) (defBody s_Laid_best_swap) (defScope s_Laid_best_swap) .none ckV0_10 cdc0_10 cpm0_10 can0_10 ccd0_10 cct0_10⟩, ?_⟩
  constructor
  · exact fun_mk (st := s_is_whole) l_is_whole c_is_whole k_is_whole
  · exact PySem.W.mg_of X G a_is_whole
  · exact (fun_mk (st := s_is_whole) l_is_whole c_is_whole k_is_whole).binds (ps := ["value"]) fun _ _ _ _ _ _ us hl => match us, hl with | [_], _ => rfl
  · exact fun_mk (st := s_is_within) l_is_within c_is_within k_is_within
  · exact PySem.W.mg_of X G a_is_within
  · exact (fun_mk (st := s_is_within) l_is_within c_is_within k_is_within).binds (ps := ["value", "least", "greatest"]) fun _ _ _ _ _ _ us hl => match us, hl with | [_, _, _], _ => rfl
  · exact fun_mk (st := s_is_tie) l_is_tie c_is_tie k_is_tie
  · exact PySem.W.mg_of X G a_is_tie
  · exact (fun_mk (st := s_is_tie) l_is_tie c_is_tie k_is_tie).binds (ps := ["tie", "places"]) fun _ _ _ _ _ _ us hl => match us, hl with | [_, _], _ => rfl
  · exact fun_mk (st := s_look_ties) l_look_ties c_look_ties k_look_ties
  · exact PySem.W.mg_of X G a_look_ties
  · exact (fun_mk (st := s_look_ties) l_look_ties c_look_ties k_look_ties).binds (ps := ["places", "ties"]) fun _ _ _ _ _ _ us hl => match us, hl with | [_, _], _ => rfl
  · exact fun_mk (st := s_look_web) l_look_web c_look_web k_look_web
  · exact PySem.W.mg_of X G a_look_web
  · exact (fun_mk (st := s_look_web) l_look_web c_look_web k_look_web).binds (ps := ["web"]) fun _ _ _ _ _ _ us hl => match us, hl with | [_], _ => rfl
  · exact fun_mk (st := s_look_order) l_look_order c_look_order k_look_order
  · exact PySem.W.mg_of X G a_look_order
  · exact (fun_mk (st := s_look_order) l_look_order c_look_order k_look_order).binds (ps := ["places", "order"]) fun _ _ _ _ _ _ us hl => match us, hl with | [_, _], _ => rfl
  · exact fun_mk (st := s_look_both) l_look_both c_look_both k_look_both
  · exact PySem.W.mg_of X G a_look_both
  · exact (fun_mk (st := s_look_both) l_look_both c_look_both k_look_both).binds (ps := ["web", "order"]) fun _ _ _ _ _ _ us hl => match us, hl with | [_, _], _ => rfl
  · exact fun_mk (st := s_spots_of) l_spots_of c_spots_of k_spots_of
  · exact PySem.W.mg_of X G a_spots_of
  · exact (fun_mk (st := s_spots_of) l_spots_of c_spots_of k_spots_of).binds (ps := ["order"]) fun _ _ _ _ _ _ us hl => match us, hl with | [_], _ => rfl
  · exact fun_mk (st := s_lengths) l_lengths c_lengths k_lengths
  · exact PySem.W.mg_of X G a_lengths
  · exact (fun_mk (st := s_lengths) l_lengths c_lengths k_lengths).binds (ps := ["web", "order"]) fun _ _ _ _ _ _ us hl => match us, hl with | [_, _], _ => rfl
  · exact fun_mk (st := s_gaps) l_gaps c_gaps k_gaps
  · exact PySem.W.mg_of X G a_gaps
  · exact (fun_mk (st := s_gaps) l_gaps c_gaps k_gaps).binds (ps := ["web", "order"]) fun _ _ _ _ _ _ us hl => match us, hl with | [_, _], _ => rfl
  · exact fun_mk (st := s_longest) l_longest c_longest k_longest
  · exact PySem.W.mg_of X G a_longest
  · exact (fun_mk (st := s_longest) l_longest c_longest k_longest).binds (ps := ["web", "order"]) fun _ _ _ _ _ _ us hl => match us, hl with | [_, _], _ => rfl
  · exact fun_mk (st := s_total) l_total c_total k_total
  · exact PySem.W.mg_of X G a_total
  · exact (fun_mk (st := s_total) l_total c_total k_total).binds (ps := ["web", "order"]) fun _ _ _ _ _ _ us hl => match us, hl with | [_, _], _ => rfl
  · exact fun_mk (st := s_look_spots) l_look_spots c_look_spots k_look_spots
  · exact PySem.W.mg_of X G a_look_spots
  · exact (fun_mk (st := s_look_spots) l_look_spots c_look_spots k_look_spots).binds (ps := ["row", "one", "other"]) fun _ _ _ _ _ _ us hl => match us, hl with | [_, _, _], _ => rfl
  · exact fun_mk (st := s_swapped) l_swapped c_swapped k_swapped
  · exact PySem.W.mg_of X G a_swapped
  · exact (fun_mk (st := s_swapped) l_swapped c_swapped k_swapped).binds (ps := ["row", "one", "other"]) fun _ _ _ _ _ _ us hl => match us, hl with | [_, _, _], _ => rfl
  · exact fun_mk (st := s_moved) l_moved c_moved k_moved
  · exact PySem.W.mg_of X G a_moved
  · exact (fun_mk (st := s_moved) l_moved c_moved k_moved).binds (ps := ["row", "one", "other"]) fun _ _ _ _ _ _ us hl => match us, hl with | [_, _, _], _ => rfl
  · exact fun_mk (st := s_turned) l_turned c_turned k_turned
  · exact PySem.W.mg_of X G a_turned
  · exact (fun_mk (st := s_turned) l_turned c_turned k_turned).binds (ps := ["row", "one", "other"]) fun _ _ _ _ _ _ us hl => match us, hl with | [_, _, _], _ => rfl
  · exact fun_mk (st := s_law_cell) l_law_cell c_law_cell k_law_cell
  · exact PySem.W.mg_of X G a_law_cell
  · exact (fun_mk (st := s_law_cell) l_law_cell c_law_cell k_law_cell).binds (ps := ["_law_script", "_law_k"]) fun _ _ _ _ _ _ us hl => match us, hl with | [_, _], _ => rfl
  · exact fun_mk (st := s_law_mix) l_law_mix c_law_mix k_law_mix
  · exact PySem.W.mg_of X G a_law_mix
  · exact (fun_mk (st := s_law_mix) l_law_mix c_law_mix k_law_mix).binds (ps := ["_law_script", "_law_k"]) fun _ _ _ _ _ _ us hl => match us, hl with | [_, _], _ => rfl
  · exact fun_mk (st := s_law_whole) l_law_whole c_law_whole k_law_whole
  · exact PySem.W.mg_of X G a_law_whole
  · exact (fun_mk (st := s_law_whole) l_law_whole c_law_whole k_law_whole).binds (ps := ["_law_found"]) fun _ _ _ _ _ _ us hl => match us, hl with | [_], _ => rfl
  · exact fun_mk (st := s_law_web) l_law_web c_law_web k_law_web
  · exact PySem.W.mg_of X G a_law_web
  · exact (fun_mk (st := s_law_web) l_law_web c_law_web k_law_web).binds (ps := ["_law_script", "_law_k", "_law_places"]) fun _ _ _ _ _ _ us hl => match us, hl with | [_, _, _], _ => rfl
  · exact fun_mk (st := s_law_order) l_law_order c_law_order k_law_order
  · exact PySem.W.mg_of X G a_law_order
  · exact (fun_mk (st := s_law_order) l_law_order c_law_order k_law_order).binds (ps := ["_law_script", "_law_k", "_law_many"]) fun _ _ _ _ _ _ us hl => match us, hl with | [_, _, _], _ => rfl
  · exact fun_mk (st := s_law_lengths) l_law_lengths c_law_lengths k_law_lengths
  · exact PySem.W.mg_of X G a_law_lengths
  · exact (fun_mk (st := s_law_lengths) l_law_lengths c_law_lengths k_law_lengths).binds (ps := ["_law_web_here", "_law_order_here"]) fun _ _ _ _ _ _ us hl => match us, hl with | [_, _], _ => rfl
  · exact fun_mk (st := s_law_gaps) l_law_gaps c_law_gaps k_law_gaps
  · exact PySem.W.mg_of X G a_law_gaps
  · exact (fun_mk (st := s_law_gaps) l_law_gaps c_law_gaps k_law_gaps).binds (ps := ["_law_web_here", "_law_order_here"]) fun _ _ _ _ _ _ us hl => match us, hl with | [_, _], _ => rfl
  · exact fun_mk (st := s_law_measured) l_law_measured c_law_measured k_law_measured
  · exact PySem.W.mg_of X G a_law_measured
  · exact (fun_mk (st := s_law_measured) l_law_measured c_law_measured k_law_measured).binds (ps := ["_law_web_here", "_law_kind", "_law_order_here"]) fun _ _ _ _ _ _ us hl => match us, hl with | [_, _, _], _ => rfl
  · exact fun_mk (st := s_law_refusal) l_law_refusal c_law_refusal k_law_refusal
  · exact PySem.W.mg_of X G a_law_refusal
  · exact (fun_mk (st := s_law_refusal) l_law_refusal c_law_refusal k_law_refusal).binds (ps := ["_law_kept"]) fun _ _ _ _ _ _ us hl => match us, hl with | [_], _ => rfl
  · exact fun_mk (st := s_law_done) l_law_done c_law_done k_law_done
  · exact PySem.W.mg_of X G a_law_done
  · exact (fun_mk (st := s_law_done) l_law_done c_law_done k_law_done).binds (ps := ["_law_laid", "_law_word", "_law_one", "_law_other"]) fun _ _ _ _ _ _ us hl => match us, hl with | [_, _, _, _], _ => rfl
  · exact fun_mk (st := s_law_made) l_law_made c_law_made k_law_made
  · exact PySem.W.mg_of X G a_law_made
  · exact (fun_mk (st := s_law_made) l_law_made c_law_made k_law_made).binds (ps := ["_law_web_here", "_law_order_here"]) fun _ _ _ _ _ _ us hl => match us, hl with | [_, _], _ => rfl
  · exact fun_mk (st := s_law_deed) l_law_deed c_law_deed k_law_deed
  · exact PySem.W.mg_of X G a_law_deed
  · exact (fun_mk (st := s_law_deed) l_law_deed c_law_deed k_law_deed).binds (ps := ["_law_row", "_law_word", "_law_one", "_law_other"]) fun _ _ _ _ _ _ us hl => match us, hl with | [_, _, _, _], _ => rfl
  · exact fun_mk (st := s_law_best) l_law_best c_law_best k_law_best
  · exact PySem.W.mg_of X G a_law_best
  · exact (fun_mk (st := s_law_best) l_law_best c_law_best k_law_best).binds (ps := ["_law_web_here", "_law_row"]) fun _ _ _ _ _ _ us hl => match us, hl with | [_, _], _ => rfl
  · exact fun_mk (st := s_law_same) l_law_same c_law_same k_law_same
  · exact PySem.W.mg_of X G a_law_same
  · exact (fun_mk (st := s_law_same) l_law_same c_law_same k_law_same).binds (ps := ["_law_laid", "_law_web_here", "_law_row"]) fun _ _ _ _ _ _ us hl => match us, hl with | [_, _, _], _ => rfl
  · exact fun_mk (st := s_law) l_law c_law k_law
  · exact PySem.W.mg_of X G a_law
  · exact (fun_mk (st := s_law) l_law c_law k_law).binds (ps := ["_law_script"]) fun _ _ _ _ _ _ us hl => match us, hl with | [_], _ => rfl
  · exact fun s v => .of_eq rfl
  · exact PySem.W.mg_of X G a_LayError
  · exact x_LayError
  · exact PySem.W.mg_of X G a_BadWeb
  · exact x_BadWeb
  · exact ⟨e1_BadWeb, e2_BadWeb, e3_BadWeb, e4_BadWeb, e5_BadWeb, _, e6_BadWeb⟩
  · exact s_BadWeb
  · exact v_BadWeb
  · exact PySem.W.mg_of X G a_BadOrder
  · exact x_BadOrder
  · exact ⟨e1_BadOrder, e2_BadOrder, e3_BadOrder, e4_BadOrder, e5_BadOrder, _, e6_BadOrder⟩
  · exact s_BadOrder
  · exact v_BadOrder
  · exact PySem.W.mg_of X G a_BadSpot
  · exact x_BadSpot
  · exact ⟨e1_BadSpot, e2_BadSpot, e3_BadSpot, e4_BadSpot, e5_BadSpot, _, e6_BadSpot⟩
  · exact s_BadSpot
  · exact v_BadSpot
  · exact PySem.W.mg_of X G a_BadKind
  · exact x_BadKind
  · exact ⟨e1_BadKind, e2_BadKind, e3_BadKind, e4_BadKind, e5_BadKind, _, e6_BadKind⟩
  · exact s_BadKind
  · exact v_BadKind
  · exact PySem.W.mg_of X G a_BadText
  · exact x_BadText
  · exact ⟨e1_BadText, e2_BadText, e3_BadText, e4_BadText, e5_BadText, _, e6_BadText⟩
  · exact s_BadText
  · exact v_BadText
  · exact i_BadWeb_BadWeb
  · exact i_BadWeb_BadOrder
  · exact i_BadWeb_BadSpot
  · exact i_BadWeb_BadKind
  · exact i_BadWeb_BadText
  · exact i_BadOrder_BadWeb
  · exact i_BadOrder_BadOrder
  · exact i_BadOrder_BadSpot
  · exact i_BadOrder_BadKind
  · exact i_BadOrder_BadText
  · exact i_BadSpot_BadWeb
  · exact i_BadSpot_BadOrder
  · exact i_BadSpot_BadSpot
  · exact i_BadSpot_BadKind
  · exact i_BadSpot_BadText
  · exact i_BadKind_BadWeb
  · exact i_BadKind_BadOrder
  · exact i_BadKind_BadSpot
  · exact i_BadKind_BadKind
  · exact i_BadKind_BadText
  · exact i_BadText_BadWeb
  · exact i_BadText_BadOrder
  · exact i_BadText_BadSpot
  · exact i_BadText_BadKind
  · exact i_BadText_BadText
  · exact ⟨_, PySem.W.mg_of X G g_MOST_PLACES⟩
  · exact ⟨_, PySem.W.mg_of X G g_MOST_WEIGHT⟩
  · exact PySem.W.mg_of X G a_gaps_webs
  · exact PySem.W.mg_of X G a_longest_webs
  · exact PySem.W.mg_of X G a_total_webs
  · exact PySem.W.mg_of X G a_Laid
  · exact ⟨pg_Laid, hd_Laid, po_Laid, sa_Laid⟩
  · exact ⟨mk_Laid, a_Laid_init, i_Laid_init, kc_Laid⟩
  · exact n_Laid_past
  · exact n_Laid_row
  · exact n_Laid_web
  · exact fun_mk (st := s_Laid_init) l_Laid_init c_Laid_init k_Laid_init
  · exact (fun_mk (st := s_Laid_init) l_Laid_init c_Laid_init k_Laid_init).binds (ps := ["self", "web", "order"]) fun _ _ _ _ _ _ us hl => match us, hl with | [_, _, _], _ => rfl
  · exact fun_mk (st := s_Laid_lay) l_Laid_lay c_Laid_lay k_Laid_lay
  · exact ⟨a_Laid_lay, i_Laid_lay, k_Laid_lay⟩
  · exact (fun_mk (st := s_Laid_lay) l_Laid_lay c_Laid_lay k_Laid_lay).binds (ps := ["self", "row"]) fun _ _ _ _ _ _ us hl => match us, hl with | [_, _], _ => rfl
  · exact fun_mk (st := s_Laid_swap) l_Laid_swap c_Laid_swap k_Laid_swap
  · exact ⟨a_Laid_swap, i_Laid_swap, k_Laid_swap⟩
  · exact (fun_mk (st := s_Laid_swap) l_Laid_swap c_Laid_swap k_Laid_swap).binds (ps := ["self", "one", "other"]) fun _ _ _ _ _ _ us hl => match us, hl with | [_, _, _], _ => rfl
  · exact fun_mk (st := s_Laid_move) l_Laid_move c_Laid_move k_Laid_move
  · exact ⟨a_Laid_move, i_Laid_move, k_Laid_move⟩
  · exact (fun_mk (st := s_Laid_move) l_Laid_move c_Laid_move k_Laid_move).binds (ps := ["self", "one", "other"]) fun _ _ _ _ _ _ us hl => match us, hl with | [_, _, _], _ => rfl
  · exact fun_mk (st := s_Laid_turn) l_Laid_turn c_Laid_turn k_Laid_turn
  · exact ⟨a_Laid_turn, i_Laid_turn, k_Laid_turn⟩
  · exact (fun_mk (st := s_Laid_turn) l_Laid_turn c_Laid_turn k_Laid_turn).binds (ps := ["self", "one", "other"]) fun _ _ _ _ _ _ us hl => match us, hl with | [_, _, _], _ => rfl
  · exact fun_mk (st := s_Laid_back) l_Laid_back c_Laid_back k_Laid_back
  · exact ⟨a_Laid_back, i_Laid_back, k_Laid_back⟩
  · exact (fun_mk (st := s_Laid_back) l_Laid_back c_Laid_back k_Laid_back).binds (ps := ["self"]) fun _ _ _ _ _ _ us hl => match us, hl with | [_], _ => rfl
  · exact fun_mk (st := s_Laid_order) l_Laid_order c_Laid_order k_Laid_order
  · exact ⟨a_Laid_order, i_Laid_order, k_Laid_order⟩
  · exact (fun_mk (st := s_Laid_order) l_Laid_order c_Laid_order k_Laid_order).binds (ps := ["self"]) fun _ _ _ _ _ _ us hl => match us, hl with | [_], _ => rfl
  · exact fun_mk (st := s_Laid_gaps) l_Laid_gaps c_Laid_gaps k_Laid_gaps
  · exact ⟨a_Laid_gaps, i_Laid_gaps, k_Laid_gaps⟩
  · exact (fun_mk (st := s_Laid_gaps) l_Laid_gaps c_Laid_gaps k_Laid_gaps).binds (ps := ["self"]) fun _ _ _ _ _ _ us hl => match us, hl with | [_], _ => rfl
  · exact fun_mk (st := s_Laid_longest) l_Laid_longest c_Laid_longest k_Laid_longest
  · exact ⟨a_Laid_longest, i_Laid_longest, k_Laid_longest⟩
  · exact (fun_mk (st := s_Laid_longest) l_Laid_longest c_Laid_longest k_Laid_longest).binds (ps := ["self"]) fun _ _ _ _ _ _ us hl => match us, hl with | [_], _ => rfl
  · exact fun_mk (st := s_Laid_total) l_Laid_total c_Laid_total k_Laid_total
  · exact ⟨a_Laid_total, i_Laid_total, k_Laid_total⟩
  · exact (fun_mk (st := s_Laid_total) l_Laid_total c_Laid_total k_Laid_total).binds (ps := ["self"]) fun _ _ _ _ _ _ us hl => match us, hl with | [_], _ => rfl
  · exact fun_mk (st := s_Laid_best_swap) l_Laid_best_swap c_Laid_best_swap k_Laid_best_swap
  · exact ⟨a_Laid_best_swap, i_Laid_best_swap, k_Laid_best_swap⟩
  · exact (fun_mk (st := s_Laid_best_swap) l_Laid_best_swap c_Laid_best_swap k_Laid_best_swap).binds (ps := ["self"]) fun _ _ _ _ _ _ us hl => match us, hl with | [_], _ => rfl
  · exact PySem.W.mg_none_of X G z_abs
  · exact PySem.W.mg_none_of X G z_bool
  · exact PySem.W.mg_none_of X G z_enumerate
  · exact PySem.W.mg_none_of X G z_int
  · exact PySem.W.mg_none_of X G z_isinstance
  · exact PySem.W.mg_none_of X G z_len
  · exact PySem.W.mg_none_of X G z_list
  · exact PySem.W.mg_none_of X G z_max
  · exact PySem.W.mg_none_of X G z_min
  · exact PySem.W.mg_none_of X G z_range
  · exact PySem.W.mg_none_of X G z_reversed
  · exact PySem.W.mg_none_of X G z_sorted
  · exact PySem.W.mg_none_of X G z_sum
  · exact PySem.W.mg_none_of X G z_tuple
  · exact PySem.W.mg_none_of X G z_zip
  · exact PySem.W.mg_none_of X G z_ValueError
  · exact k_bool_bool
  · exact k_bool_int
  · exact k_bool_str
  · exact k_bool_list
  · exact k_bool_tuple
  · exact k_int_bool
  · exact k_int_int
  · exact k_int_str
  · exact k_int_list
  · exact k_int_tuple
  · exact k_str_bool
  · exact k_str_int
  · exact k_str_str
  · exact k_str_list
  · exact k_str_tuple
  · exact k_list_bool
  · exact k_list_int
  · exact k_list_str
  · exact k_list_list
  · exact k_list_tuple
  · exact k_tuple_bool
  · exact k_tuple_int
  · exact k_tuple_str
  · exact k_tuple_list
  · exact k_tuple_tuple
end My
namespace My
open PySem L2 PySem.Spec PyProof.Rows
variable {P : Program} {w : World} {K : PySem.W.Frag} {mg : Str → Option Value} {base : Heap} {A : Ad} {D : FD}
theorem ref_facts (T : Txt K mg A D) {C : Addr} {y : Str} (h : refWord A.er C y) : PySem.W.excIn K C bmV "ValueError.__new__" = true ∧ PySem.W.mroIn K C (.ref A.LayError) = some true ∧ ExcLook K C ∧ PySem.W.kitOne K (.ref C) (.type "ValueError") = some true := by
  rcases h with ⟨rfl, _⟩ | ⟨rfl, _⟩ | ⟨rfl, _⟩ | ⟨rfl, _⟩ | ⟨rfl, _⟩
  · exact ⟨T.x_BadKind, T.s_BadKind, T.l_BadKind, T.v_BadKind⟩
  · exact ⟨T.x_BadOrder, T.s_BadOrder, T.l_BadOrder, T.v_BadOrder⟩
  · exact ⟨T.x_BadSpot, T.s_BadSpot, T.l_BadSpot, T.v_BadSpot⟩
  · exact ⟨T.x_BadText, T.s_BadText, T.l_BadText, T.v_BadText⟩
  · exact ⟨T.x_BadWeb, T.s_BadWeb, T.l_BadWeb, T.v_BadWeb⟩
theorem sc_is_whole : FnScope ["value"] ["value"] (defScope s_is_whole) := ⟨rfl, rfl, rfl, by decide +kernel, rfl, by decide +kernel, by decide +kernel⟩
theorem ok_whole (T : Txt K mg A D) {k : Nat} : FnOk P w K mg base (CXF P w) (k + 1) A.is_whole D.is_whole ["value"] spWhole := by
  refine T.F_is_whole.okF sc_is_whole (fun vs H Q E h => ?_) (fun cdv A' outer s H vs Q E hr h => ?_)
  · obtain ⟨_, rfl, _⟩ := h
    rfl
  obtain ⟨x, rfl, h⟩ := h
  refine ⟨_, (pss_one (ps_ret (pe_and (pe_callB call_isinst rfl T.z_isinstance bt_isinstance (pa_cons (pv 0) (pa_cons (pe_bltn (v := .ty "int") rfl T.z_int bt_int rfl) pa_nil))) (pe_one (pe_not (pe_callB call_isinst rfl T.z_isinstance bt_isinstance (pa_cons (pv 0) (pa_cons (pe_bltn (v := .ty "bool") rfl T.z_bool bt_bool rfl) pa_nil)))))))), ?_⟩
  rcases h with ⟨i, rfl, q⟩ | ⟨a, xs, rfl, ha, q⟩
  · refine ⟨_, rfl, _, _, _, _, _, rfl, rfl, .int i, T.k_int_int, _, rfl, iteT ?_⟩
    exact ⟨_, rfl, _, _, _, _, _, rfl, rfl, .int i, T.k_int_bool, _, rfl, q⟩
  · exact ⟨_, rfl, _, _, _, _, _, rfl, rfl, .tup ha, T.k_tuple_int, _, rfl, iteF q⟩
theorem sc_is_within : FnScope ["value", "least", "greatest"] ["value", "least", "greatest"] (defScope s_is_within) := ⟨rfl, rfl, rfl, by decide +kernel, rfl, by decide +kernel, by decide +kernel⟩
theorem ok_within (T : Txt K mg A D) {k : Nat} (G_is_whole : FnOk P w K mg base (CXF P w) k A.is_whole D.is_whole ["value"] spWhole) : FnOk P w K mg base (CXF P w) (k + 1) A.is_within D.is_within ["value", "least", "greatest"] spWithin := by
  refine T.F_is_within.okF sc_is_within (fun vs H Q E h => ?_) (fun cdv A' outer s H vs Q E hr h => ?_)
  · obtain ⟨_, _, _, rfl, _⟩ := h
    rfl
  obtain ⟨v, a, b, rfl, q⟩ := h
  refine ⟨_, (pss_one (ps_ret (pe_and (pe_call G_is_whole hr rfl T.m_is_whole T.F_is_whole.kp T.b_is_whole .nil pass0F (pa_cons (pv 0) pa_nil)) (pe_one (pe_chain op_le op_le (pv 1) (pv 0) (pv 2)))))), ?_⟩
  refine ⟨_, rfl, _, rfl, .inl ⟨v, rfl, _, rfl, iteT ?_⟩⟩
  refine ⟨_, rfl, _, rfl, _, _, rfl, rfl, _, rfl, ite2 (fun c => ?_) (fun c => ?_)⟩
  · refine ⟨_, rfl, _, _, rfl, rfl, ?_⟩
    have c' : a ≤ v := of_decide_eq_true c
    rw [decide_eq_true c', Bool.true_and] at q
    exact q
  · have c' : ¬ a ≤ v := of_decide_eq_false (Bool.eq_false_iff.mpr c)
    rw [decide_eq_false c', Bool.false_and] at q
    exact q
theorem sc_is_tie : FnScope ["tie", "places"] ["tie", "places"] (defScope s_is_tie) := ⟨rfl, rfl, rfl, by decide +kernel, rfl, by decide +kernel, by decide +kernel⟩
theorem ok_tie (T : Txt K mg A D) {k : Nat} (G_is_within : FnOk P w K mg base (CXF P w) k A.is_within D.is_within ["value", "least", "greatest"] spWithin) : FnOk P w K mg base (CXF P w) (k + 1) A.is_tie D.is_tie ["tie", "places"] spTie := by
  refine T.F_is_tie.okF sc_is_tie (fun vs H Q E h => ?_) (fun cdv A' outer s H vs Q E hr h => ?_)
  · obtain ⟨_, _, _, rfl, _⟩ := h
    rfl
  obtain ⟨p, t, n, rfl, ht, q⟩ := h
  obtain ⟨tw, hC_MOST_WEIGHT⟩ := T.g_MOST_WEIGHT
  refine ⟨_, (pss_cons (ps_if (PW.pt (pw_or (pt_not (pt_val (pe_callB call_isinst rfl T.z_isinstance bt_isinstance (pa_cons (pv 0) (pa_cons (pe_bltn (v := .ty "tuple") rfl T.z_tuple bt_tuple rfl) pa_nil))))) (pw_or1 (pt_cmpR op_ne (pe_callB call_len_seq rfl T.z_len PySem.boot_len (pa_cons (pv 0) pa_nil)) pe_int (nomark _)))))
(pss_one (ps_ret pe_bl))
pss_nil)
(pss_cons (ps_if (pt_not (pt_val (pe_call G_is_within hr rfl T.m_is_within T.F_is_within.kp T.b_is_within .nil pass0F (pa_cons (pe_ix ix_tup (pv 0) pe_int (fun _ _ => rfl)) (pa_cons pe_int (pa_cons (pe_op op_sub (pv 1) pe_int) pa_nil))))))
(pss_one (ps_ret pe_bl))
pss_nil)
(pss_one (ps_ret (pe_and (pe_call G_is_within hr rfl T.m_is_within T.F_is_within.kp T.b_is_within .nil pass0F (pa_cons (pe_ix ix_tup (pv 0) pe_int (fun _ _ => rfl)) (pa_cons pe_int (pa_cons (pe_op op_sub (pe_ix ix_tup (pv 0) pe_int (fun _ _ => rfl)) pe_int) pa_nil)))) (pe_one (pe_call G_is_within hr rfl T.m_is_within T.F_is_within.kp T.b_is_within .nil pass0F (pa_cons (pe_ix ix_tup (pv 0) pe_int (fun _ _ => rfl)) (pa_cons pe_int (pa_cons (pe_glob (v := .int 100) rfl hC_MOST_WEIGHT ⟨_, rfl⟩) pa_nil)))))))))), ?_⟩
  refine ⟨_, rfl, _, _, _, _, _, rfl, rfl, .tup ht, T.k_tuple_tuple, _, rfl, iteF ?_⟩
  refine ⟨_, rfl, p, _, rfl, .inr (SqT.of ht), rfl, _, rfl, ?_⟩
  by_cases h3 : t.length = 3
  · obtain ⟨a, b, c, rfl⟩ : ∃ a b c, t = [a, b, c] := by
      match t, h3 with
      | [a, b, c], _ => exact ⟨a, b, c, rfl⟩
    refine iteF ?_
    refine ⟨_, rfl, _, _, _, _, rfl, rfl, SqT.of ht, rfl, _, rfl, _, _, rfl, rfl, b, 0, n - 1, rfl, _, rfl, ?_⟩
    show if (!(decide (0 ≤ b) && decide (b ≤ n - 1))) = true then _ else _
    cases e1 : (decide (0 ≤ b) && decide (b ≤ n - 1)) with
    | false =>
      refine iteT ?_
      have z : tieOk n [a, b, c] = false := by rw [tieOk_eq, e1, Bool.false_and]
      rw [z] at q
      exact q
    | true =>
      refine iteF ?_
      refine ⟨_, rfl, _, _, _, _, rfl, rfl, SqT.of ht, rfl, _, rfl, _, _, _, _, rfl, rfl, SqT.of ht, rfl, _, _, rfl, rfl, a, 0, b - 1, rfl, _, rfl, ?_⟩
      cases e2 : (decide (0 ≤ a) && decide (a ≤ b - 1)) with
      | false =>
        refine iteF ?_
        have z : tieOk n [a, b, c] = false := by rw [tieOk_eq, e1, e2, Bool.false_and, Bool.true_and]
        rw [z] at q
        exact q
      | true =>
        refine iteT ?_
        refine ⟨_, rfl, _, _, _, _, rfl, rfl, SqT.of ht, rfl, c, 1, 100, rfl, ?_⟩
        have z : tieOk n [a, b, c] = (decide (1 ≤ c) && decide (c ≤ 100)) := by rw [tieOk_eq, e1, e2, Bool.true_and, Bool.true_and]
        rw [z] at q
        exact q
  · have hl : ((t.map V.int).length : Int) ≠ 3 := by rw [List.length_map]; omega
    have c : (!decide (V.int ((t.map V.int).length : Int) = V.int 3)) = true := by
      rw [decide_eq_false (fun z => hl (V.int.inj z))]
      rfl
    rw [c]
    refine iteT ?_
    have z : tieOk n t = false := by
      unfold tieOk
      split
      · exact absurd rfl h3
      · rfl
    rw [z] at q
    exact q
theorem sc_look_ties : FnScope ["places", "ties", "before", "tie"] ["places", "ties"] (defScope s_look_ties) := ⟨rfl, rfl, rfl, by decide +kernel, rfl, by decide +kernel, by decide +kernel⟩
theorem ok_ties (T : Txt K mg A D) {k : Nat} (G_is_tie : FnOk P w K mg base (CXF P w) k A.is_tie D.is_tie ["tie", "places"] spTie) : FnOk P w K mg base (CXF P w) (k + 1) A.look_ties D.look_ties ["places", "ties"] (spTies A.er) := by
  refine T.F_look_ties.okF sc_look_ties (fun vs H Q E h => ?_) (fun cdv A' outer s H vs Q E hr h => ?_)
  · obtain ⟨_, _, _, _, rfl, _⟩ := h
    rfl
  obtain ⟨n, l, xs, ts, rfl, hl, dl, win, qn, qe⟩ := h
  refine ⟨_, (pss_cons (ps_set (i := 2) sc_look_ties.nd rfl (Or.inl rfl) (pe_tup (pa_cons (pe_un un_neg pe_int) (pa_cons (pe_un un_neg pe_int) pa_nil))))
(pss_one (ps_for passesOwn_cx rfl (pi_list (pv 1)) (pg_name (i := 3) sc_look_ties.nd rfl (Or.inl rfl))
(pss_cons (ps_if (pt_not (pt_val (pe_call G_is_tie hr rfl T.m_is_tie T.F_is_tie.kp T.b_is_tie .nil pass0F (pa_cons (pv 3) (pa_cons (pv 0) pa_nil)))))
(pss_one (ps_raise raises_cx rfl T.m_BadWeb T.x_BadWeb PySem.F.excBase_ValueError rfl (pa_cons (pe_fstr (pstrs_cons (pstr_tupr hr 3) (pstrs_cons pstr_const (pstrs_cons (pstr_int 0) (pstrs_cons pstr_const pstrs_nil))))) pa_nil)))
pss_nil)
(pss_cons (ps_if (pt_cmpR (op_leT hr.units0) (pe_slice sl_tup (pv 3) po_none (po_some pe_int)) (pv 2) (nomark _))
(pss_one (ps_raise raises_cx rfl T.m_BadWeb T.x_BadWeb PySem.F.excBase_ValueError rfl (pa_cons (pe_fstr (pstrs_cons (pstr_tupr hr 3) (pstrs_cons pstr_const pstrs_nil))) pa_nil)))
pss_nil)
(pss_one (ps_set (i := 2) sc_look_ties.nd rfl (Or.inl rfl) (pe_slice sl_tup (pv 3) po_none (po_some pe_int))))))))), ?_⟩
  refine ⟨_, rfl, _, rfl, by decide, fun p hp => ?_⟩
  have e0 : Same H (upd H p (.tup [.int (-1), .int (-1)])) := same_new hp
  refine ⟨_, rfl, l, rfl, ⟨xs, SqL.of (e0 _ _ hl)⟩, ?_⟩
  have hlen : xs.length = ts.length := by rw [← dl.length, List.length_map]
  refine for_in ts.length (fun i σ H' => ∃ b v3 bef, σ = [some (.int n), some (.ref l), some (.ref b), v3] ∧ Same H H' ∧ H' b = some (.tup (bef.map V.int)) ∧ tiesOk n bef (ts.drop i) = tiesOk n [-1, -1] ts)
    ⟨p, none, [-1, -1], rfl, e0, upd_same, rfl⟩ ?_ ?_ ?_ ?_
  · rintro i σ H' hi ⟨b, v3, bef, rfl, e, hb, ht⟩
    have hx : i < xs.length := by omega
    exact ⟨xs, xs[i], SqL.of (e _ _ hl), List.getElem?_eq_getElem hx⟩
  · rintro σ H' ⟨b, v3, bef, rfl, e, hb, ht⟩
    exact ⟨xs, SqL.of (e _ _ hl), by omega⟩
  · rintro i x σ H2 H3 hi ⟨b, v3, bef, rfl, e, hb, ht⟩ ⟨rfl, hx⟩
    obtain ⟨t, htt⟩ : ∃ t, ts[i]? = some t := ⟨ts[i], List.getElem?_eq_getElem hi⟩
    obtain ⟨a, hxa, hta⟩ := tie_at (dl.mono e) htt
    have hx2 := hx xs (SqL.of (e _ _ hl))
    rw [hxa] at hx2
    cases hx2
    have hin := win.tie t (List.mem_of_getElem? htt)
    have hdrop : ts.drop i = t :: ts.drop (i + 1) := by
      obtain ⟨h1, h2⟩ := List.getElem?_eq_some_iff.mp htt
      rw [← h2]
      exact List.drop_eq_getElem_cons h1
    rw [hdrop] at ht
    refine ⟨_, rfl, _, rfl, a, t, n, rfl, hta, _, rfl, ?_⟩
    cases e1 : tieOk n t with
    | false =>
      refine iteT ?_
      refine ⟨⟨⟨a, t, rfl, SqT.of hta, hin.1, hin.2⟩, trivial, ⟨n, rfl, win.n⟩, trivial, trivial⟩, by decide, fun x hx => ?_⟩
      refine ⟨(by show 1 ≤ sizeLine; decide), qe ?_ _ e⟩
      rw [← ht, tiesOk, e1, Bool.false_and]
    | true =>
      refine iteF ?_
      obtain ⟨ta, tb, tc, rfl, _⟩ := tieOk_three e1
      refine ⟨_, rfl, _, rfl, a, _, rfl, SqT.of hta, (by show ¬ (HT.sIx 3 0 none = 0 ∧ HT.sIx 3 3 (some 2) = 3); decide), fun p2 hp2 => ?_⟩
      have hpb : b ≠ p2 := fun z => by subst z; rw [hp2] at hb; cases hb
      refine ⟨_, rfl, p2, b, [ta, tb], bef, rfl, rfl, SqT.of upd_same, SqT.of (by rw [upd_ne hpb]; exact hb), _, rfl, ?_⟩
      cases e2 : HT.lexLe [ta, tb] bef with
      | true =>
        refine iteT ?_
        have hta2 := same_new (o := .tup (cutV ([ta, tb, tc].map V.int) none (some 2))) hp2 _ _ hta
        refine ⟨⟨⟨a, [ta, tb, tc], rfl, SqT.of hta2, hin.1, hin.2⟩, trivial, trivial⟩, by decide, fun x hx => ?_⟩
        refine ⟨(by show 1 ≤ sizeLine; decide), qe ?_ _ (e.trans (same_new hp2))⟩
        rw [← ht, tiesOk, e1, Bool.true_and]
        show (!HT.lexLe [ta, tb] bef && _) = false
        rw [e2]
        rfl
      | false =>
        refine iteF ?_
        have hta2 := same_new (o := .tup (cutV ([ta, tb, tc].map V.int) none (some 2))) hp2 _ _ hta
        refine ⟨_, rfl, _, rfl, a, _, rfl, SqT.of hta2, (by show ¬ (HT.sIx 3 0 none = 0 ∧ HT.sIx 3 3 (some 2) = 3); decide), fun p3 hp3 => ?_⟩
        refine ⟨p3, _, [ta, tb], rfl, (e.trans (same_new hp2)).trans (same_new hp3), upd_same, ?_⟩
        rw [← ht, tiesOk, e1, Bool.true_and]
        show _ = (!HT.lexLe [ta, tb] bef && _)
        rw [e2]
        rfl
  · rintro σ H' ⟨b, v3, bef, rfl, e, hb, ht⟩
    rw [List.drop_length] at ht
    exact qn ht.symm _ e
theorem sc_look_web : FnScope ["web"] ["web"] (defScope s_look_web) := ⟨rfl, rfl, rfl, by decide +kernel, rfl, by decide +kernel, by decide +kernel⟩
theorem ok_web (T : Txt K mg A D) {k : Nat} (G_is_within : FnOk P w K mg base (CXF P w) k A.is_within D.is_within ["value", "least", "greatest"] spWithin)
    (G_look_ties : FnOk P w K mg base (CXF P w) k A.look_ties D.look_ties ["places", "ties"] (spTies A.er)) : FnOk P w K mg base (CXF P w) (k + 1) A.look_web D.look_web ["web"] (spWeb A.er) := by
  refine T.F_look_web.okF sc_look_web (fun vs H Q E h => ?_) (fun cdv A' outer s H vs Q E hr h => ?_)
  · obtain ⟨_, _, _, rfl, _⟩ := h
    rfl
  obtain ⟨v, n, ts, rfl, dv, win, qn, qe⟩ := h
  obtain ⟨a, l, xs, rfl, ha, hl, dl⟩ := web_of dv
  obtain ⟨tp, hC_MOST_PLACES⟩ := T.g_MOST_PLACES
  refine ⟨_, (pss_cons (ps_if (PW.pt (pw_or (pt_not (pt_val (pe_callB call_isinst rfl T.z_isinstance bt_isinstance (pa_cons (pv 0) (pa_cons (pe_bltn (v := .ty "tuple") rfl T.z_tuple bt_tuple rfl) pa_nil))))) (pw_or1 (pt_cmpR op_ne (pe_callB call_len_seq rfl T.z_len PySem.boot_len (pa_cons (pv 0) pa_nil)) pe_int (nomark _)))))
(pss_one (ps_raise raises_cx rfl T.m_BadWeb T.x_BadWeb PySem.F.excBase_ValueError rfl (pa_cons pe_str pa_nil)))
pss_nil)
(pss_cons (ps_if (pt_not (pt_val (pe_call G_is_within hr rfl T.m_is_within T.F_is_within.kp T.b_is_within .nil pass0F (pa_cons (pe_ix ix_tup (pv 0) pe_int (fun _ _ => rfl)) (pa_cons pe_int (pa_cons (pe_glob (v := .int 8) rfl hC_MOST_PLACES ⟨_, rfl⟩) pa_nil))))))
(pss_one (ps_raise raises_cx rfl T.m_BadWeb T.x_BadWeb PySem.F.excBase_ValueError rfl (pa_cons (pe_fstr (pstrs_cons pstr_const (pstrs_cons (pstr_g (pe_glob (v := .int 8) rfl hC_MOST_PLACES ⟨_, rfl⟩) (by decide)) (pstrs_cons pstr_const pstrs_nil)))) pa_nil)))
pss_nil)
(pss_cons (ps_if (pt_not (pt_val (pe_callB call_isinst rfl T.z_isinstance bt_isinstance (pa_cons (pe_ix ix_tup (pv 0) pe_int (fun _ _ => rfl)) (pa_cons (pe_bltn (v := .ty "list") rfl T.z_list bt_list rfl) pa_nil)))))
(pss_one (ps_raise raises_cx rfl T.m_BadWeb T.x_BadWeb PySem.F.excBase_ValueError rfl (pa_cons pe_str pa_nil)))
pss_nil)
(pss_one (ps_expr (pe_call G_look_ties hr rfl T.m_look_ties T.F_look_ties.kp T.b_look_ties .nil passes_cx (pa_cons (pe_ix ix_tup (pv 0) pe_int (fun _ _ => rfl)) (pa_cons (pe_ix ix_tup (pv 0) pe_int (fun _ _ => rfl)) pa_nil)))))))), ?_⟩
  refine ⟨_, rfl, _, _, _, _, _, rfl, rfl, .tup ha, T.k_tuple_tuple, _, rfl, iteF ?_⟩
  refine ⟨_, rfl, a, _, rfl, .inr (SqT.of ha), rfl, _, rfl, iteF ?_⟩
  refine ⟨_, rfl, _, _, _, _, rfl, rfl, SqT.of ha, rfl, n, 0, 8, rfl, _, rfl, ?_⟩
  show if (!(decide (0 ≤ n) && decide (n ≤ 8))) = true then _ else _
  cases e1 : (decide (0 ≤ n) && decide (n ≤ 8)) with
  | false =>
    refine iteT ?_
    refine ⟨⟨trivial, trivial, trivial, trivial⟩, by decide, fun x hx => ⟨(by show 1 ≤ sizeLine; decide), qe ?_ _ (Same.refl _)⟩⟩
    unfold webOk
    rw [e1, Bool.false_and]
  | true =>
    refine iteF ?_
    have z : webOk n ts = tiesOk n [-1, -1] ts := by unfold webOk; rw [e1, Bool.true_and]
    refine ⟨_, rfl, _, _, _, _, rfl, rfl, SqT.of ha, rfl, _, _, _, _, _, rfl, rfl, .lst hl, T.k_list_list, _, rfl, iteF ?_⟩
    refine ⟨_, rfl, _, _, _, _, rfl, rfl, SqT.of ha, rfl, _, rfl, _, _, _, _, rfl, rfl, SqT.of ha, rfl, n, l, xs, ts, rfl, hl, dl, win, fun c H' e => qn (z.trans c) H' e, fun c H' e => qe (z.trans c) H' e⟩
theorem sc_look_order : FnScope ["places", "order", "met", "place"] ["places", "order"] (defScope s_look_order) := ⟨rfl, rfl, rfl, by decide +kernel, rfl, by decide +kernel, by decide +kernel⟩
theorem ok_order (T : Txt K mg A D) {k : Nat} (G_is_within : FnOk P w K mg base (CXF P w) k A.is_within D.is_within ["value", "least", "greatest"] spWithin) : FnOk P w K mg base (CXF P w) (k + 1) A.look_order D.look_order ["places", "order"] (spOrd A.er) := by
  refine T.F_look_order.okF sc_look_order (fun vs H Q E h => ?_) (fun cdv A' outer s H vs Q E hr h => ?_)
  · obtain ⟨_, _, _, rfl, _⟩ := h
    rfl
  obtain ⟨n, l, ns, rfl, hl, hn, oin, qn, qe⟩ := h
  refine ⟨_, (pss_cons (ps_if (PW.pt (pw_or (pt_not (pt_val (pe_callB call_isinst rfl T.z_isinstance bt_isinstance (pa_cons (pv 1) (pa_cons (pe_bltn (v := .ty "list") rfl T.z_list bt_list rfl) pa_nil))))) (pw_or1 (pt_cmpR op_ne (pe_callB call_len_seq rfl T.z_len PySem.boot_len (pa_cons (pv 1) pa_nil)) (pv 0) (nomark _)))))
(pss_one (ps_raise raises_cx rfl T.m_BadOrder T.x_BadOrder PySem.F.excBase_ValueError rfl (pa_cons (pe_fstr (pstrs_cons pstr_const (pstrs_cons (pstr_int 0) (pstrs_cons pstr_const pstrs_nil)))) pa_nil)))
pss_nil)
(pss_cons (ps_set (i := 2) sc_look_order.nd rfl (Or.inl rfl) pe_dnewK)
(pss_one (ps_for passesOwn_cx rfl (pi_list (pv 1)) (pg_name (i := 3) sc_look_order.nd rfl (Or.inl rfl))
(pss_cons (ps_if (pt_not (pt_val (pe_call G_is_within hr rfl T.m_is_within T.F_is_within.kp T.b_is_within .nil pass0F (pa_cons (pv 3) (pa_cons pe_int (pa_cons (pe_op op_sub (pv 0) pe_int) pa_nil))))))
(pss_one (ps_raise raises_cx rfl T.m_BadOrder T.x_BadOrder PySem.F.excBase_ValueError rfl (pa_cons (pe_fstr (pstrs_cons (pstr_intr 3) (pstrs_cons pstr_const (pstrs_cons (pstr_int 0) (pstrs_cons pstr_const pstrs_nil))))) pa_nil)))
pss_nil)
(pss_cons (ps_if (pt_cmp (pc_din (hu_of hr) (pv 3) (pv 2)))
(pss_one (ps_raise raises_cx rfl T.m_BadOrder T.x_BadOrder PySem.F.excBase_ValueError rfl (pa_cons (pe_fstr (pstrs_cons pstr_const (pstrs_cons (pstr_int 3) (pstrs_cons pstr_const pstrs_nil)))) pa_nil)))
pss_nil)
(pss_one (ps_dput (hu_of hr) (pv 2) (pv 3) pe_bl rfl)))))))), ?_⟩
  refine ⟨_, rfl, _, _, _, _, _, rfl, rfl, .lst hl, T.k_list_list, _, rfl, iteF ?_⟩
  refine ⟨_, rfl, l, _, rfl, .inl (SqL.of hl), _, rfl, rfl, _, rfl, ?_⟩
  by_cases c : (ns.length : Int) = n
  · have z : (!decide (V.int ((ns.map V.int).length : Int) = V.int n)) = false := by
      rw [List.length_map, c]
      simp
    rw [z]
    refine iteF fun p hp => ?_
    have e0 : Same H (upd H p (.dK [])) := same_new hp
    refine ⟨_, rfl, l, rfl, ⟨_, SqL.of (e0 _ _ hl)⟩, ?_⟩
    refine for_in ns.length (fun i σ H' => ∃ v3, σ = [some (.int n), some (.ref l), some (.ref p), v3] ∧ Same H H' ∧ H' p = some (.dK (keyI (ns.take i))) ∧ (ns.take i).all (fun k => decide (0 ≤ k) && decide (k ≤ n - 1)) = true ∧ (ns.take i).Nodup)
      ⟨none, rfl, e0, upd_same, rfl, List.nodup_nil⟩ ?_ ?_ ?_ ?_
    · rintro i σ H' hi ⟨v3, rfl, e, hd, h1, h2⟩
      exact ⟨_, .int ns[i], SqL.of (e _ _ hl), by rw [List.getElem?_map, List.getElem?_eq_getElem hi]; rfl⟩
    · rintro σ H' ⟨v3, rfl, e, hd, h1, h2⟩
      exact ⟨_, SqL.of (e _ _ hl), by rw [List.length_map]; omega⟩
    · rintro i x σ H2 H3 hi ⟨v3, rfl, e, hd, h1, h2⟩ ⟨rfl, hx⟩
      have hx2 := hx _ (SqL.of (e _ _ hl))
      rw [List.getElem?_map, List.getElem?_eq_getElem hi] at hx2
      cases hx2
      have hm : ns[i] ∈ ns := List.getElem_mem hi
      have ht : ns.take (i + 1) = ns.take i ++ [ns[i]] := by rw [List.take_succ, List.getElem?_eq_getElem hi]; rfl
      refine ⟨_, rfl, _, rfl, _, _, rfl, rfl, ns[i], 0, n - 1, rfl, _, rfl, ?_⟩
      show if (!(decide (0 ≤ ns[i]) && decide (ns[i] ≤ n - 1))) = true then _ else _
      cases e1 : (decide (0 ≤ ns[i]) && decide (ns[i] ≤ n - 1)) with
      | false =>
        refine iteT ?_
        refine ⟨⟨⟨_, rfl, oin.one _ hm⟩, trivial, ⟨n, rfl, hn⟩, trivial, trivial⟩, by decide, fun x hx => ⟨(by show 1 ≤ sizeLine; decide), qe ?_ _ e⟩⟩
        have : ns.all (fun k => decide (0 ≤ k) && decide (k ≤ n - 1)) = false := by
          rw [List.all_eq_false]
          exact ⟨ns[i], hm, by rw [e1]; decide⟩
        unfold ordOk
        rw [this, Bool.false_and, Bool.and_false]
      | true =>
        refine iteF ?_
        refine ⟨_, rfl, _, rfl, p, _, rfl, DGet.k (k := Sum.inl ns[i]) hd, _, rfl, ?_⟩
        rw [keyI_val]
        by_cases c2 : ns[i] ∈ ns.take i
        · rw [decide_eq_true c2]
          refine iteT ?_
          refine ⟨⟨trivial, ⟨_, rfl, oin.one _ hm⟩, trivial, trivial⟩, by decide, fun x hx => ⟨(by show 1 ≤ sizeLine; decide), qe ?_ _ e⟩⟩
          have : ¬ ns.Nodup := fun nd => by
            have nd2 : (ns.take (i + 1)).Nodup := nd.sublist (List.take_sublist _ _)
            rw [ht, List.nodup_append] at nd2
            exact nd2.2.2 _ c2 _ (List.mem_singleton.mpr rfl) rfl
          unfold ordOk
          rw [decide_eq_false this, Bool.and_false, Bool.and_false]
        · rw [decide_eq_false c2]
          refine iteF ?_
          have hlen : (keyI (ns.take i)).length < sizeLine := by
            unfold keyI
            rw [List.length_map, List.length_take]
            have := oin.len
            rw [sizeLine_eq]
            omega
          refine ⟨_, rfl, _, rfl, p, _, rfl, DPut.k (k := Sum.inl ns[i]) hd hlen, _, rfl, e.put hp, ?_, ?_, ?_⟩
          · rw [upd_same, keyI_put c2, ht]
          · rw [ht, List.all_append, h1]
            simp only [List.all_cons, List.all_nil, e1]
            rfl
          · rw [ht]
            exact nd_snoc h2 c2
    · rintro σ H' ⟨v3, rfl, e, hd, h1, h2⟩
      rw [List.take_length] at h1 h2
      refine qn ?_ _ e
      unfold ordOk
      rw [decide_eq_true c, h1, decide_eq_true h2]
      rfl
  · have z : (!decide (V.int ((ns.map V.int).length : Int) = V.int n)) = true := by
      rw [List.length_map, decide_eq_false fun q => c (V.int.inj q)]
      rfl
    rw [z]
    refine iteT ?_
    refine ⟨⟨trivial, ⟨n, rfl, hn⟩, trivial, trivial⟩, by decide, fun x hx => ⟨(by show 1 ≤ sizeLine; decide), qe ?_ _ (Same.refl _)⟩⟩
    unfold ordOk
    rw [decide_eq_false c, Bool.false_and]
theorem sc_look_both : FnScope ["web", "order"] ["web", "order"] (defScope s_look_both) := ⟨rfl, rfl, rfl, by decide +kernel, rfl, by decide +kernel, by decide +kernel⟩
theorem ok_both (T : Txt K mg A D) {k : Nat} (G_look_web : FnOk P w K mg base (CXF P w) k A.look_web D.look_web ["web"] (spWeb A.er))
    (G_look_order : FnOk P w K mg base (CXF P w) k A.look_order D.look_order ["places", "order"] (spOrd A.er)) : FnOk P w K mg base (CXF P w) (k + 1) A.look_both D.look_both ["web", "order"] (spBoth A.er) := by
  refine T.F_look_both.okF sc_look_both (fun vs H Q E h => ?_) (fun cdv A' outer s H vs Q E hr h => ?_)
  · obtain ⟨_, _, _, _, _, rfl, _⟩ := h
    rfl
  obtain ⟨v, l, n, ts, ns, rfl, b, q⟩ := h
  refine ⟨_, (pss_cons (ps_expr (pe_call G_look_web hr rfl T.m_look_web T.F_look_web.kp T.b_look_web .nil passes_cx (pa_cons (pv 0) pa_nil)))
(pss_one (ps_expr (pe_call G_look_order hr rfl T.m_look_order T.F_look_order.kp T.b_look_order .nil passes_cx (pa_cons (pe_ix ix_tup (pv 0) pe_int (fun _ _ => rfl)) (pa_cons (pv 1) pa_nil)))))), ?_⟩
  refine ⟨_, rfl, v, n, ts, rfl, b.web, b.win, fun hw H1 e1 => ?_, fun hw H1 e1 => b.ew hw H1 e1⟩
  obtain ⟨a, tl, xs, rfl, ha, hl, dl⟩ := web_of (b.web.mono e1)
  refine ⟨_, rfl, _, _, _, _, rfl, rfl, SqT.of ha, rfl, _, rfl, n, l, ns, rfl, e1 _ _ b.ord, b.win.n, b.oin, fun ho H2 e2 => q hw ho H2 (e1.trans e2), fun ho H2 e2 => b.eo hw ho H2 (e1.trans e2)⟩
theorem sc_spots_of : FnScope ["order", "spots", "spot", "place"] ["order"] (defScope s_spots_of) := ⟨rfl, rfl, rfl, by decide +kernel, rfl, by decide +kernel, by decide +kernel⟩
theorem ok_spots (T : Txt K mg A D) {k : Nat} : FnOk P w K mg base (CXF P w) (k + 1) A.spots_of D.spots_of ["order"] spSpots := by
  refine T.F_spots_of.okF sc_spots_of (fun vs H Q E h => ?_) (fun cdv A' outer s H vs Q E hr h => ?_)
  · obtain ⟨_, _, rfl, _⟩ := h
    rfl
  obtain ⟨l, ns, rfl, hl, nd, hlen, q⟩ := h
  refine ⟨_, (pss_cons (ps_set (i := 1) sc_spots_of.nd rfl (Or.inl rfl) pe_dnewK)
(pss_cons (ps_for passesOwn_cx rfl (pi_enum rfl T.z_enumerate (pv 0)) (pg_tup rfl (pgs_cons (pg_name (i := 2) sc_spots_of.nd rfl (Or.inl rfl)) (pgs_cons (pg_name (i := 3) sc_spots_of.nd rfl (Or.inl rfl)) pgs_nil)))
(pss_one (ps_dput (hu_of hr) (pv 1) (pv 3) (pv 2) rfl)))
(pss_one (ps_ret (pv 1))))), ?_⟩
  intro p hp
  have e0 : Same H (upd H p (.dK [])) := same_new hp
  refine ⟨_, rfl, l, rfl, ⟨_, SqL.of (e0 _ _ hl)⟩, ?_⟩
  refine for_in ns.length (fun i σ H' => ∃ v2 v3, σ = [some (.ref l), some (.ref p), v2, v3] ∧ Same H H' ∧ H' p = some (.dK (spotsK (ns.take i)))) ⟨none, none, rfl, e0, upd_same⟩ ?_ ?_ ?_ ?_
  · rintro i σ H' hi ⟨v2, v3, rfl, e, hd⟩
    exact ⟨_, .int ns[i], SqL.of (e _ _ hl), by rw [List.getElem?_map, List.getElem?_eq_getElem hi]; rfl⟩
  · rintro σ H' ⟨v2, v3, rfl, e, hd⟩
    exact ⟨_, SqL.of (e _ _ hl), by rw [List.length_map]; omega⟩
  · rintro i x σ H2 H3 hi ⟨v2, v3, rfl, e, hd⟩ ⟨T2, y, rfl, hT, rfl, hx⟩
    have hx2 := hx _ (SqL.of (e _ _ hl))
    rw [List.getElem?_map, List.getElem?_eq_getElem hi] at hx2
    cases hx2
    have ht : ns.take (i + 1) = ns.take i ++ [ns[i]] := by rw [List.take_succ, List.getElem?_eq_getElem hi]; rfl
    have hi' : (ns.take i).length = i := by rw [List.length_take]; omega
    have c2 : ns[i] ∉ ns.take i := fun c2 => by
      have nd2 : (ns.take (i + 1)).Nodup := nd.sublist (List.take_sublist _ _)
      rw [ht, List.nodup_append] at nd2
      exact nd2.2.2 _ c2 _ (List.mem_singleton.mpr rfl) rfl
    have e3 : Same H2 (upd H2 T2 (.tup [.int (i : Nat), .int ns[i]])) := same_new hT
    refine ⟨T2, _, rfl, SqT.of upd_same, rfl, _, _, rfl, _, _, rfl, rfl, ?_⟩
    have hz : (spotsK (ns.take i)).length < sizeLine := by
      unfold spotsK
      rw [List.length_map, List.length_zipIdx, hi', sizeLine_eq]
      omega
    refine ⟨_, rfl, _, rfl, _, rfl, p, _, rfl, DPut.k (k := Sum.inl ns[i]) (e3 _ _ hd) hz, _, _, rfl, (e.trans e3).put hp, ?_⟩
    have z := spots_put c2
    rw [hi'] at z
    rw [upd_same, z, ht]
  · rintro σ H' ⟨v2, v3, rfl, e, hd⟩
    rw [List.take_length] at hd
    exact ⟨_, rfl, q p H' hp e hd⟩
theorem sc_lengths : FnScope ["web", "order", "spots"] ["web", "order"] (defScope s_lengths) := ⟨rfl, rfl, rfl, by decide +kernel, rfl, by decide +kernel, by decide +kernel⟩
theorem nd_lengths_1 : List.Nodup (["spots", "one", "other", "weight"] : List Str) := by decide +kernel
theorem ok_lengths (T : Txt K mg A D) {k : Nat} (G_look_both : FnOk P w K mg base (CXF P w) k A.look_both D.look_both ["web", "order"] (spBoth A.er))
    (G_spots_of : FnOk P w K mg base (CXF P w) k A.spots_of D.spots_of ["order"] spSpots) : FnOk P w K mg base (CXF P w) (k + 1) A.lengths D.lengths ["web", "order"] (spLens A.er) := by
  refine T.F_lengths.okF sc_lengths (fun vs H Q E h => ?_) (fun cdv A' outer s H vs Q E hr h => ?_)
  · obtain ⟨_, _, _, _, _, rfl, _⟩ := h
    rfl
  obtain ⟨v, l, n, ts, ns, rfl, b, q⟩ := h
  refine ⟨_, (pss_cons (ps_expr (pe_call G_look_both hr rfl T.m_look_both T.F_look_both.kp T.b_look_both .nil passes_cx (pa_cons (pv 0) (pa_cons (pv 1) pa_nil))))
(pss_cons (ps_set (i := 2) sc_lengths.nd rfl (Or.inr rfl) (pe_call G_spots_of hr rfl T.m_spots_of T.F_spots_of.kp T.b_spots_of .nil pass0F (pa_cons (pv 1) pa_nil)))
(pss_one (ps_ret (pe_lc rfl (cn_of (N := ["spots", "one", "other", "weight"]) (js := [some 2, none, none, none]) rfl rfl (by decide +kernel) (by decide +kernel) rfl (List.forall_mem_cons.mpr ⟨rfl, fun _ h => nomatch h⟩) (List.forall_mem_cons.mpr ⟨(fun h => nomatch h), (List.forall_mem_cons.mpr ⟨(fun h => nomatch h), (List.forall_mem_cons.mpr ⟨(fun h => nomatch h), (List.forall_mem_cons.mpr ⟨(fun h => nomatch h), (List.forall_mem_cons.mpr ⟨(fun h => nomatch h), (List.forall_mem_cons.mpr ⟨(fun _ => rfl), fun _ h => nomatch h⟩)⟩)⟩)⟩)⟩)⟩) (List.forall_mem_cons.mpr ⟨(fun j h => (by cases h; exact ⟨rfl, rfl, rfl⟩)), (List.forall_mem_cons.mpr ⟨(fun j h => nomatch h), (List.forall_mem_cons.mpr ⟨(fun j h => nomatch h), (List.forall_mem_cons.mpr ⟨(fun j h => nomatch h), fun _ h => nomatch h⟩)⟩)⟩)⟩) rfl) (pi_list (pe_ix ix_tup (pv 0) pe_int (fun _ _ => rfl))) (fun _ _ _ _ => (pg_tupK (K := K) (n := 3) rfl rfl (pgs_cons (pg_name (i := 1) nd_lengths_1 rfl (Or.inl rfl) (hf := Or.inr rfl)) (pgs_cons (pg_name (i := 2) nd_lengths_1 rfl (Or.inl rfl) (hf := Or.inr rfl)) (pgs_cons (pg_name (i := 3) nd_lengths_1 rfl (Or.inl rfl) (hf := Or.inr rfl)) pgs_nil))) rfl rfl)) (fun _ _ _ _ => pts_nil) (fun _ _ _ _ => (pe_callB call_abs rfl T.z_abs bt_abs (pa_cons (pe_op op_sub (pe_dget (hu_of hr) (pv 0) (pv 1) (fun _ _ => rfl)) (pe_dget (hu_of hr) (pv 0) (pv 2) (fun _ _ => rfl))) pa_nil)))))))), ?_⟩
  refine ⟨_, rfl, _, rfl, v, l, n, ts, ns, rfl, b, fun hw ho H1 e1 => ?_⟩
  obtain ⟨hol, hok, hon⟩ := ordOk_of ho
  obtain ⟨hn0, hn8, htt⟩ := webOk_of hw
  refine ⟨_, rfl, l, ns, rfl, e1 _ _ b.ord, hon, b.oin.len, fun sp H2 hsp e2 hd => ?_⟩
  obtain ⟨a, tl, xs, rfl, ha, hl, dl⟩ := web_of (b.web.mono (e1.trans e2))
  have hlen : xs.length = ts.length := by rw [← dl.length, List.length_map]
  refine ⟨_, rfl, _, _, _, _, rfl, rfl, SqT.of ha, rfl, tl, rfl, ⟨xs, SqL.of hl⟩, ?_⟩
  refine lc_in (fun σ => ∃ x y z, σ = [some (.ref sp), x, y, z]) ts.length (fun i => .int (tieLen ns (ts.getD i []))) ⟨none, none, none, rfl⟩ ?_ ?_ ?_ ?_ ?_
  · intro i H3 hi e3
    have hx : i < xs.length := by omega
    exact ⟨xs, xs[i], SqL.of (e3 _ _ hl), List.getElem?_eq_getElem hx⟩
  · intro H3 e3
    exact ⟨xs, SqL.of (e3 _ _ hl), by omega⟩
  · have := b.win.len
    rw [sizeLine_eq]
    omega
  · rintro Dd i x σ2 H3 H4 N hi e3 hD ⟨x1, y1, z1, rfl⟩ ⟨rfl, hx⟩ fin
    obtain ⟨t, htt2⟩ : ∃ t, ts[i]? = some t := ⟨ts[i], List.getElem?_eq_getElem hi⟩
    obtain ⟨ta, hxa, hta⟩ := tie_at (dl.mono e3) htt2
    have hx2 := hx xs (SqL.of (e3 _ _ hl))
    rw [hxa] at hx2
    cases hx2
    have htd : ts.getD i [] = t := by rw [List.getD_eq_getElem?_getD, htt2]; rfl
    obtain ⟨pa, pb, pc, rfl, h1, h2, h3, h4, h5, h6⟩ := htt t (List.mem_of_getElem? htt2)
    have ma := ord_all ho h3 (by omega)
    have mb := ord_all ho h1 h2
    refine ⟨ta, _, rfl, SqT.of hta, rfl, _, _, rfl, _, _, rfl, _, _, rfl, rfl, ?_⟩
    refine ⟨_, rfl, _, rfl, sp, _, rfl, spots_get (e3 _ _ hd) ma, _, rfl, _, rfl, sp, _, rfl, spots_get (e3 _ _ hd) mb, _, _, rfl, rfl, _, rfl, ?_⟩
    refine fin _ _ _ ⟨_, _, _, rfl⟩ (Same.refl _) ?_
    rw [htd]
    exact .int
  · intro Dd ys H3 hD e3 hy dy
    have z : (List.range ts.length).map (fun i => PyData.int (tieLen ns (ts.getD i []))) = (lens ns ts).map .int := by
      rw [map_range_get (fun t => PyData.int (tieLen ns t)) [] ts]
      unfold lens
      rw [List.map_map]
      rfl
    rw [z] at dy
    rw [dy.ints_of] at hy
    exact q hw ho Dd H3 ((e1.trans e2).free hD) ((e1.trans e2).trans e3) hy
theorem sc_gaps : FnScope ["web", "order", "spots", "gap", "over", "one", "other", "weight", "left", "right"] ["web", "order"] (defScope s_gaps) := ⟨rfl, rfl, rfl, by decide +kernel, rfl, by decide +kernel, by decide +kernel⟩
theorem nd_gaps_1 : List.Nodup (["gap"] : List Str) := by decide +kernel
theorem ok_gaps (T : Txt K mg A D) {k : Nat} (G_look_both : FnOk P w K mg base (CXF P w) k A.look_both D.look_both ["web", "order"] (spBoth A.er))
    (G_spots_of : FnOk P w K mg base (CXF P w) k A.spots_of D.spots_of ["order"] spSpots) : FnOk P w K mg base (CXF P w) (k + 1) A.gaps D.gaps ["web", "order"] (spGaps A.er) := by
  refine T.F_gaps.okF sc_gaps (fun vs H Q E h => ?_) (fun cdv A' outer s H vs Q E hr h => ?_)
  · obtain ⟨_, _, _, _, _, rfl, _⟩ := h
    rfl
  obtain ⟨v, l, n, ts, ns, rfl, b, q⟩ := h
  refine ⟨_, (pss_cons (ps_expr (pe_call G_look_both hr rfl T.m_look_both T.F_look_both.kp T.b_look_both .nil passes_cx (pa_cons (pv 0) (pa_cons (pv 1) pa_nil))))
(pss_cons (ps_set (i := 2) sc_gaps.nd rfl (Or.inl rfl) (pe_call G_spots_of hr rfl T.m_spots_of T.F_spots_of.kp T.b_spots_of .nil pass0F (pa_cons (pv 1) pa_nil)))
(pss_cons (ps_setLC rfl (cn_none (N := ["gap"]) (js := [none]) rfl rfl (by decide +kernel) (by decide +kernel) (by decide +kernel) rfl (by decide) rfl) (pi_range1 rfl T.z_range (pa_cons (pe_op op_sub (pe_ix ix_tup (pv 0) pe_int (fun _ _ => rfl)) pe_int) pa_nil)) sc_gaps.nd (k := 4) rfl rfl (fun _ _ _ _ => (pg_name (i := 0) nd_gaps_1 rfl (Or.inl rfl) (hf := Or.inr rfl))) (fun _ _ _ _ => pts_nil) (fun _ _ _ _ => pe_int) (by rfl))
(pss_cons (ps_for passesOwn_cx rfl (pi_list (pe_ix ix_tup (pv 0) pe_int (fun _ _ => rfl))) (pg_tup rfl (pgs_cons (pg_name (i := 5) sc_gaps.nd rfl (Or.inl rfl)) (pgs_cons (pg_name (i := 6) sc_gaps.nd rfl (Or.inl rfl)) (pgs_cons (pg_name (i := 7) sc_gaps.nd rfl (Or.inl rfl)) pgs_nil))))
(pss_cons (ps_set (i := 8) sc_gaps.nd rfl (Or.inl rfl) (pe_callB (call_min2 rfl) rfl T.z_min bt_min (pa_cons (pe_dget (hu_of hr) (pv 2) (pv 5) (fun _ _ => rfl)) (pa_cons (pe_dget (hu_of hr) (pv 2) (pv 6) (fun _ _ => rfl)) pa_nil))))
(pss_cons (ps_set (i := 9) sc_gaps.nd rfl (Or.inl rfl) (pe_callB (call_max2 rfl) rfl T.z_max bt_max (pa_cons (pe_dget (hu_of hr) (pv 2) (pv 5) (fun _ _ => rfl)) (pa_cons (pe_dget (hu_of hr) (pv 2) (pv 6) (fun _ _ => rfl)) pa_nil))))
(pss_one (ps_for passesOwn_cx rfl (pi_range2 rfl T.z_range (pa_cons (pv 8) (pa_cons (pv 9) pa_nil))) (pg_name (i := 3) sc_gaps.nd rfl (Or.inl rfl))
(pss_one (ps_augS (pv 4) (pv 3) get_list (pv 7) ip_add set_list)))))))
(pss_one (ps_ret (pv 4))))))), ?_⟩
  refine ⟨_, rfl, _, rfl, v, l, n, ts, ns, rfl, b, fun hw ho H1 e1 => ?_⟩
  obtain ⟨hol, hok, hon⟩ := ordOk_of ho
  obtain ⟨hn0, hn8, htt⟩ := webOk_of hw
  refine ⟨_, rfl, l, ns, rfl, e1 _ _ b.ord, hon, b.oin.len, fun sp H2 hsp e2 hd => ?_⟩
  obtain ⟨a, tl, xs, rfl, ha, hl, dl⟩ := web_of (b.web.mono (e1.trans e2))
  have hlen : xs.length = ts.length := by rw [← dl.length, List.length_map]
  refine ⟨_, rfl, _, _, _, _, rfl, rfl, SqT.of ha, rfl, _, _, rfl, rfl, n - 1, rfl, by omega, by omega, ?_⟩
  refine lc_in (fun σ => ∃ x, σ = [x]) (n - 1).toNat (fun i => .int 0) ?_ ?_ ?_ ?_ ?_ ?_
  · exact ⟨none, rfl⟩
  · intro i H3 hi e3
    exact hi
  · intro H3 e3
    exact Nat.le_refl _
  · rw [sizeLine_eq]
    omega
  · rintro Dd i x σ2 H3 H4 N hi e3 hD ⟨x1, rfl⟩ ⟨rfl, rfl⟩ fin
    exact fin _ _ _ ⟨_, rfl⟩ (Same.refl _) .int
  intro ov ys H3 hov e3 hy dy
  have z0 : (List.range (n - 1).toNat).map (fun _ => PyData.int 0) = (gapsL (n - 1).toNat ns []).map .int := by
    unfold gapsL
    rw [List.map_map]
    rfl
  rw [z0] at dy
  rw [dy.ints_of] at hy
  refine ⟨_, rfl, _, _, _, _, rfl, rfl, SqT.of (e3 _ _ ha), rfl, tl, rfl, ⟨xs, SqL.of (e3 _ _ hl)⟩, ?_⟩
  refine for_in ts.length (fun i σ H' => ∃ v3 v5 v6 v7 v8 v9, σ = [some (.ref a), some (.ref l), some (.ref sp), v3, some (.ref ov), v5, v6, v7, v8, v9] ∧ Same H2 H' ∧ H' ov = some (.lst ((gapsL (n - 1).toNat ns (ts.take i)).map .int)))
    ⟨_, _, _, _, _, _, rfl, e3, hy⟩ ?_ ?_ ?_ ?_
  · rintro i σ H' hi ⟨v3, v5, v6, v7, v8, v9, rfl, e, hg⟩
    have hx : i < xs.length := by omega
    exact ⟨xs, xs[i], SqL.of (e _ _ hl), List.getElem?_eq_getElem hx⟩
  · rintro σ H' ⟨v3, v5, v6, v7, v8, v9, rfl, e, hg⟩
    exact ⟨xs, SqL.of (e _ _ hl), by omega⟩
  · rintro i x σ H4 H5 hi ⟨v3, v5, v6, v7, v8, v9, rfl, e, hg⟩ ⟨rfl, hx⟩
    obtain ⟨t, htt2⟩ : ∃ t, ts[i]? = some t := ⟨ts[i], List.getElem?_eq_getElem hi⟩
    obtain ⟨ta, hxa, hta⟩ := tie_at (dl.mono e) htt2
    have hx2 := hx xs (SqL.of (e _ _ hl))
    rw [hxa] at hx2
    cases hx2
    have htk : ts.take (i + 1) = ts.take i ++ [t] := by rw [List.take_succ, htt2]; rfl
    obtain ⟨pa, pb, pc, rfl, h1, h2, h3, h4, h5, h6⟩ := htt t (List.mem_of_getElem? htt2)
    have ma := ord_all ho h3 (by omega)
    have mb := ord_all ho h1 h2
    have la := idx_lt ma
    have lb := idx_lt mb
    refine ⟨ta, _, rfl, SqT.of hta, rfl, _, _, rfl, _, _, rfl, _, _, rfl, rfl, ?_⟩
    refine ⟨_, rfl, _, rfl, sp, _, rfl, spots_get (e _ _ hd) ma, _, rfl, _, rfl, sp, _, rfl, spots_get (e _ _ hd) mb, _, _, rfl, ?_⟩
    refine ⟨_, rfl, _, rfl, sp, _, rfl, spots_get (e _ _ hd) ma, _, rfl, _, rfl, sp, _, rfl, spots_get (e _ _ hd) mb, _, _, rfl, ?_⟩
    have elo : (if ((idx ns pb : Nat) : Int) < ((idx ns pa : Nat) : Int) then ((idx ns pb : Nat) : Int) else ((idx ns pa : Nat) : Int)) = ((min (idx ns pa) (idx ns pb) : Nat) : Int) := by split <;> omega
    have ehi : (if ((idx ns pb : Nat) : Int) > ((idx ns pa : Nat) : Int) then ((idx ns pb : Nat) : Int) else ((idx ns pa : Nat) : Int)) = ((max (idx ns pa) (idx ns pb) : Nat) : Int) := by split <;> omega
    rw [elo, ehi]
    refine ⟨_, rfl, _, rfl, _, _, rfl, ⟨by omega, by omega, by omega, by omega⟩, ?_⟩
    refine for_in (((max (idx ns pa) (idx ns pb) : Nat) : Int) - ((min (idx ns pa) (idx ns pb) : Nat) : Int)).toNat (fun j σ H' => ∃ v3, σ = [some (.ref a), some (.ref l), some (.ref sp), v3, some (.ref ov), some (.int pa), some (.int pb), some (.int pc), some (.int ((min (idx ns pa) (idx ns pb) : Nat) : Int)), some (.int ((max (idx ns pa) (idx ns pb) : Nat) : Int))] ∧ Same H2 H' ∧
        H' ov = some (.lst (((List.range (n - 1).toNat).map fun g => gapAt ns (ts.take i) g + if min (idx ns pa) (idx ns pb) ≤ g ∧ g < min (idx ns pa) (idx ns pb) + j then pc else 0).map .int)))
      ⟨_, rfl, e, ?_⟩ ?_ ?_ ?_ ?_
    · rw [hg]
      congr 3
      unfold gapsL
      refine List.map_congr_left fun g _ => ?_
      rw [if_neg (by omega), Int.add_zero]
    · rintro j σ H' hj ⟨v3, rfl, e', hg'⟩
      exact hj
    · rintro σ H' ⟨v3, rfl, e', hg'⟩
      exact Nat.le_refl _
    · rintro j x σ H' H'' hj ⟨v3, rfl, e', hg'⟩ ⟨rfl, rfl⟩
      have hjm : min (idx ns pa) (idx ns pb) + j < (n - 1).toNat := by omega
      refine ⟨_, rfl, _, rfl, ov, _, min (idx ns pa) (idx ns pb) + j, .int (gapAt ns (ts.take i) (min (idx ns pa) (idx ns pb) + j)), rfl, by rw [Int.natCast_add], SqL.of hg', ?_, _, rfl, _, _, rfl, rfl, ov, _, _, min (idx ns pa) (idx ns pb) + j, rfl, rfl, hg', ?_, _, rfl, e'.put hov, ?_⟩
      · rw [List.getElem?_map, List.getElem?_map, List.getElem?_range hjm]
        simp only [Option.map_some]
        rw [if_neg (by omega), Int.add_zero]
      · simp only [List.length_map, List.length_range]
        unfold ixN
        rw [if_pos (by omega), if_pos (by omega)]
        congr 1
      · rw [upd_same, ← List.map_set, set_range (f' := fun g => gapAt ns (ts.take i) g + if min (idx ns pa) (idx ns pb) ≤ g ∧ g < min (idx ns pa) (idx ns pb) + (j + 1) then pc else 0)]
        · intro g hgk
          by_cases c1 : min (idx ns pa) (idx ns pb) ≤ g ∧ g < min (idx ns pa) (idx ns pb) + j
          · rw [if_pos c1, if_pos (by omega)]
          · rw [if_neg c1, if_neg (by omega)]
        · rw [if_pos (by omega)]
    · rintro σ H' ⟨v3, rfl, e', hg'⟩
      refine ⟨_, _, _, _, _, _, rfl, e', ?_⟩
      rw [hg']
      congr 3
      unfold gapsL
      refine List.map_congr_left fun g _ => ?_
      rw [htk, gapAt_snoc]
      show _ = gapAt ns (ts.take i) g + if min (idx ns pa) (idx ns pb) ≤ g ∧ g < max (idx ns pa) (idx ns pb) then pc else 0
      congr 1
      by_cases c1 : min (idx ns pa) (idx ns pb) ≤ g ∧ g < max (idx ns pa) (idx ns pb)
      · rw [if_pos c1, if_pos (by omega)]
      · rw [if_neg c1, if_neg (by omega)]
  · rintro σ H' ⟨v3, v5, v6, v7, v8, v9, rfl, e, hg⟩
    rw [List.take_length] at hg
    exact ⟨_, rfl, q hw ho ov H' ((e1.trans e2).free hov) ((e1.trans e2).trans e) hg⟩
theorem sc_longest : FnScope ["web", "order"] ["web", "order"] (defScope s_longest) := ⟨rfl, rfl, rfl, by decide +kernel, rfl, by decide +kernel, by decide +kernel⟩
theorem ok_longest (T : Txt K mg A D) {k : Nat} (G_lengths : FnOk P w K mg base (CXF P w) k A.lengths D.lengths ["web", "order"] (spLens A.er)) : FnOk P w K mg base (CXF P w) (k + 1) A.longest D.longest ["web", "order"] (spNum A.er longF) := by
  refine T.F_longest.okF sc_longest (fun vs H Q E h => ?_) (fun cdv A' outer s H vs Q E hr h => ?_)
  · obtain ⟨_, _, _, _, _, rfl, _⟩ := h
    rfl
  obtain ⟨v, l, n, ts, ns, rfl, b, q⟩ := h
  refine ⟨_, (pss_one (ps_ret (pe_max_default rfl rfl T.z_max (pe_call G_lengths hr rfl T.m_lengths T.F_lengths.kp T.b_lengths .nil passes_cx (pa_cons (pv 0) (pa_cons (pv 1) pa_nil))) (pk_cons pe_int pk_nil)))), ?_⟩
  refine ⟨_, rfl, _, rfl, v, l, n, ts, ns, rfl, b, fun hw ho p H1 hp e1 hl => ?_⟩
  refine ⟨p, _, 0, rfl, rfl, SqL.of hl, fun M hM => ?_⟩
  rw [hM.uniq (isMax_of lens_nonneg)]
  exact q hw ho H1 e1
theorem sc_total : FnScope ["web", "order", "told"] ["web", "order"] (defScope s_total) := ⟨rfl, rfl, rfl, by decide +kernel, rfl, by decide +kernel, by decide +kernel⟩
theorem nd_total_1 : List.Nodup (["tie", "length"] : List Str) := by decide +kernel
theorem ok_total (T : Txt K mg A D) {k : Nat} (G_lengths : FnOk P w K mg base (CXF P w) k A.lengths D.lengths ["web", "order"] (spLens A.er)) : FnOk P w K mg base (CXF P w) (k + 1) A.total D.total ["web", "order"] (spNum A.er totF) := by
  refine T.F_total.okF sc_total (fun vs H Q E h => ?_) (fun cdv A' outer s H vs Q E hr h => ?_)
  · obtain ⟨_, _, _, _, _, rfl, _⟩ := h
    rfl
  obtain ⟨v, l, n, ts, ns, rfl, b, q⟩ := h
  refine ⟨_, (pss_cons (ps_set (i := 2) sc_total.nd rfl (Or.inl rfl) (pe_call G_lengths hr rfl T.m_lengths T.F_lengths.kp T.b_lengths .nil passes_cx (pa_cons (pv 0) (pa_cons (pv 1) pa_nil))))
(pss_one (ps_ret (pe_callB (call_sum rfl) rfl T.z_sum bt_sum (pa_cons (pe_lc rfl (cn_none (N := ["tie", "length"]) (js := [none, none]) rfl rfl (by decide +kernel) (by decide +kernel) (by decide +kernel) rfl (by decide) rfl) (pi_zip rfl T.z_zip (pe_ix ix_tup (pv 0) pe_int (fun _ _ => rfl)) (pv 2)) (fun _ _ _ _ => (pg_tupK (K := K) (n := 2) rfl rfl (pgs_cons (pg_name (i := 0) nd_total_1 rfl (Or.inl rfl) (hf := Or.inr rfl)) (pgs_cons (pg_name (i := 1) nd_total_1 rfl (Or.inl rfl) (hf := Or.inr rfl)) pgs_nil)) rfl rfl)) (fun _ _ _ _ => pts_nil) (fun _ _ _ _ => (pe_op op_mul (pe_ix (ix_tupK (K := K) rfl) (pv 0) pe_int (fun _ _ => rfl)) (pv 1)))) pa_nil))))), ?_⟩
  refine ⟨_, rfl, _, rfl, v, l, n, ts, ns, rfl, b, fun hw ho p H1 hp e1 hpl => ?_⟩
  obtain ⟨hn0, hn8, htt⟩ := webOk_of hw
  obtain ⟨a, tl, xs, rfl, ha, hl, dl⟩ := web_of (b.web.mono e1)
  have hlen : xs.length = ts.length := by rw [← dl.length, List.length_map]
  have hlen2 : ((lens ns ts).map V.int).length = ts.length := by rw [List.length_map, lens_len]
  refine ⟨_, rfl, _, _, _, _, rfl, rfl, SqT.of ha, rfl, _, rfl, tl, p, rfl, rfl, ⟨xs, SqL.of hl⟩, ⟨_, SqL.of hpl⟩, ?_⟩
  refine lc_in (fun σ => ∃ x y, σ = [x, y]) ts.length (fun i => .int (weigh ns (ts.getD i []))) ?_ ?_ ?_ ?_ ?_ ?_
  · exact ⟨none, none, rfl⟩
  · intro i H3 hi e3
    have hx : i < xs.length := by omega
    have hx2 : i < ((lens ns ts).map V.int).length := by omega
    exact ⟨xs, _, xs[i], _, SqL.of (e3 _ _ hl), SqL.of (e3 _ _ hpl), List.getElem?_eq_getElem hx, List.getElem?_eq_getElem hx2⟩
  · intro H3 e3
    exact ⟨xs, _, SqL.of (e3 _ _ hl), SqL.of (e3 _ _ hpl), .inl (by omega)⟩
  · have := b.win.len
    rw [sizeLine_eq]
    omega
  · rintro Dd i x σ2 H3 H4 N hi e3 hD ⟨x1, y1, rfl⟩ ⟨T2, u1, u2, rfl, hT, rfl, hx, hy⟩ fin
    obtain ⟨t, htt2⟩ : ∃ t, ts[i]? = some t := ⟨ts[i], List.getElem?_eq_getElem hi⟩
    obtain ⟨ta, hxa, hta⟩ := tie_at (dl.mono e3) htt2
    have hx2 := hx xs (SqL.of (e3 _ _ hl))
    rw [hxa] at hx2
    cases hx2
    have hy2 := hy _ (SqL.of (e3 _ _ hpl))
    have hli : (lens ns ts)[i]? = some (tieLen ns t) := by unfold lens; rw [List.getElem?_map, htt2]; rfl
    rw [List.getElem?_map, hli] at hy2
    cases hy2
    have htd : ts.getD i [] = t := by rw [List.getD_eq_getElem?_getD, htt2]; rfl
    obtain ⟨pa, pb, pc, rfl, h1, h2, h3, h4, h5, h6⟩ := htt t (List.mem_of_getElem? htt2)
    have e4 : Same H3 (upd H3 T2 (.tup [.ref ta, .int (tieLen ns [pa, pb, pc])])) := same_new hT
    refine ⟨T2, _, rfl, SqT.of upd_same, rfl, _, _, rfl, _, _, rfl, rfl, ?_⟩
    refine ⟨_, rfl, ta, _, _, _, rfl, rfl, SqT.of (e4 _ _ hta), rfl, _, rfl, _, _, rfl, rfl, .inl ⟨by omega, by omega⟩, ?_⟩
    refine fin _ _ _ ⟨_, _, rfl⟩ e4 ?_
    rw [htd]
    exact .int
  · intro Dd ys H3 hD e3 hy dy
    have z : (List.range ts.length).map (fun i => PyData.int (weigh ns (ts.getD i []))) = (ts.map (weigh ns)).map .int := by
      rw [map_range_get (fun t => PyData.int (weigh ns t)) [] ts, List.map_map]
      rfl
    rw [z] at dy
    rw [dy.ints_of] at hy
    exact ⟨Dd, _, rfl, SqL.of hy, q hw ho H3 (e1.trans e3)⟩
theorem sc_look_spots : FnScope ["row", "one", "other", "spot"] ["row", "one", "other"] (defScope s_look_spots) := ⟨rfl, rfl, rfl, by decide +kernel, rfl, by decide +kernel, by decide +kernel⟩
theorem ok_look_spots (T : Txt K mg A D) {k : Nat} (G_is_within : FnOk P w K mg base (CXF P w) k A.is_within D.is_within ["value", "least", "greatest"] spWithin) : FnOk P w K mg base (CXF P w) (k + 1) A.look_spots D.look_spots ["row", "one", "other"] (spSpots2 A.er) := by
  refine T.F_look_spots.okF sc_look_spots (fun vs H Q E h => ?_) (fun cdv A' outer s H vs Q E hr h => ?_)
  · obtain ⟨_, _, _, _, rfl, _⟩ := h
    rfl
  obtain ⟨r, ns, i, j, rfl, hrow, si, sj, qn, qe⟩ := h
  refine ⟨_, (pss_one (ps_for passesOwn_cx rfl (pi_tup (pe_tup (pa_cons (pv 1) (pa_cons (pv 2) pa_nil)))) (pg_name (i := 3) sc_look_spots.nd rfl (Or.inl rfl))
(pss_one (ps_if (pt_not (pt_val (pe_call G_is_within hr rfl T.m_is_within T.F_is_within.kp T.b_is_within .nil pass0F (pa_cons (pv 3) (pa_cons pe_int (pa_cons (pe_op op_sub (pe_callB call_len_seq rfl T.z_len PySem.boot_len (pa_cons (pv 0) pa_nil)) pe_int) pa_nil))))))
(pss_one (ps_raise raises_cx rfl T.m_BadSpot T.x_BadSpot PySem.F.excBase_ValueError rfl (pa_cons (pe_fstr (pstrs_cons pstr_const (pstrs_cons (pstr_intr 3) pstrs_nil))) pa_nil)))
pss_nil)))), ?_⟩
  refine ⟨_, rfl, _, rfl, (by show 2 ≤ sizeLine; decide), fun t ht => ⟨t, rfl, ⟨_, SqT.of upd_same⟩, ?_⟩⟩
  obtain ⟨s1, n1⟩ := new_pair (o := .tup [V.int i, V.int j]) ht
  refine for_in 2 (fun m σ H' => ∃ v3, σ = [some (.ref r), some (.int i), some (.int j), v3] ∧ Same H H' ∧ H' t = some (.tup [V.int i, V.int j]) ∧ (1 ≤ m → 0 ≤ i ∧ i < ns.length) ∧ (2 ≤ m → 0 ≤ j ∧ j < ns.length))
    ⟨none, rfl, s1, n1, fun z => absurd z (by decide), fun z => absurd z (by decide)⟩ ?_ ?_ ?_ ?_
  · rintro m σ H' hm ⟨v3, rfl, e, ht', _⟩
    exact ⟨_, [V.int i, V.int j][m], SqT.of ht', List.getElem?_eq_getElem hm⟩
  · rintro σ H' ⟨v3, rfl, e, ht', _⟩
    exact ⟨_, SqT.of ht', Nat.le_refl _⟩
  · rintro m x σ H2 H3 hm ⟨v3, rfl, e, ht', b1, b2⟩ ⟨rfl, hx⟩
    have hx2 := hx _ (SqT.of ht')
    have hm2 : m = 0 ∨ m = 1 := by omega
    have key : ∀ y : Int, x = .int y → small y → (∀ {X : Prop}, (¬ (0 ≤ y ∧ y < ns.length) → X) → ((0 ≤ y ∧ y < ns.length) → X) → X) := fun y _ _ X h1 h2 => by
      by_cases c : 0 ≤ y ∧ y < ns.length
      · exact h2 c
      · exact h1 c
    have hlen : ((ns.map V.int).length : Int) - 1 = (ns.length : Int) - 1 := by rw [List.length_map]
    obtain ⟨y, rfl, sy, hy⟩ : ∃ y : Int, x = .int y ∧ small y ∧ ((m = 0 ∧ y = i) ∨ (m = 1 ∧ y = j)) := by
      rcases hm2 with rfl | rfl
      · cases hx2; exact ⟨i, rfl, si, .inl ⟨rfl, rfl⟩⟩
      · cases hx2; exact ⟨j, rfl, sj, .inr ⟨rfl, rfl⟩⟩
    refine ⟨_, rfl, _, rfl, _, _, rfl, .inl (SqL.of (e _ _ hrow)), _, _, rfl, rfl, y, 0, _, rfl, _, rfl, ?_⟩
    show if (!(decide (0 ≤ y) && decide (y ≤ ((ns.map V.int).length : Int) - 1))) = true then _ else _
    rw [hlen]
    by_cases c : 0 ≤ y ∧ y < ns.length
    · rw [decide_eq_true c.1, decide_eq_true (show y ≤ (ns.length : Int) - 1 by omega)]
      refine iteF ⟨_, rfl, e, ht', fun _ => ?_, fun _ => ?_⟩
      · rcases hy with ⟨rfl, rfl⟩ | ⟨rfl, rfl⟩
        · exact c
        · exact b1 (by omega)
      · rcases hy with ⟨rfl, rfl⟩ | ⟨rfl, rfl⟩
        · omega
        · exact c
    · have z : (decide (0 ≤ y) && decide (y ≤ (ns.length : Int) - 1)) = false := by
        rw [Bool.and_eq_false_iff]
        by_cases c0 : 0 ≤ y
        · exact .inr (decide_eq_false (by omega))
        · exact .inl (decide_eq_false c0)
      rw [z]
      refine iteT ⟨⟨trivial, ⟨y, rfl, sy⟩, trivial⟩, by decide, fun x hx => ⟨(by show 1 ≤ sizeLine; decide), qe ?_ _ e⟩⟩
      unfold inR
      rcases hy with ⟨rfl, rfl⟩ | ⟨rfl, rfl⟩
      · exact fun z => c z.1
      · exact fun z => c z.2
  · rintro σ H' ⟨v3, rfl, e, ht', b1, b2⟩
    exact qn ⟨b1 (by decide), b2 (by decide)⟩ _ e
theorem sc_swapped : FnScope ["row", "one", "other", "changed"] ["row", "one", "other"] (defScope s_swapped) := ⟨rfl, rfl, rfl, by decide +kernel, rfl, by decide +kernel, by decide +kernel⟩
theorem ok_swapped (T : Txt K mg A D) {k : Nat} : FnOk P w K mg base (CXF P w) (k + 1) A.swapped D.swapped ["row", "one", "other"] (spRowF swapL) := by
  refine T.F_swapped.okF sc_swapped (fun vs H Q E h => ?_) (fun cdv A' outer s H vs Q E hr h => ?_)
  · obtain ⟨_, _, _, _, rfl, _⟩ := h
    rfl
  obtain ⟨r, ns, i, j, rfl, hrow, hin, hl, q⟩ := h
  obtain ⟨⟨hi0, hi1⟩, hj0, hj1⟩ := hin
  obtain ⟨i, rfl⟩ : ∃ m : Nat, i = m := ⟨i.toNat, by omega⟩
  obtain ⟨j, rfl⟩ : ∃ m : Nat, j = m := ⟨j.toNat, by omega⟩
  have hi : i < ns.length := by omega
  have hj : j < ns.length := by omega
  have ai : atI (ns.map V.int) (i : Int) = some (.int (ns.getD i 0)) := atI_nat (by rw [List.getElem?_map, List.getElem?_eq_getElem hi, getD_at hi]; rfl)
  have aj : atI (ns.map V.int) (j : Int) = some (.int (ns.getD j 0)) := atI_nat (by rw [List.getElem?_map, List.getElem?_eq_getElem hj, getD_at hj]; rfl)
  refine ⟨_, (pss_cons (ps_set (i := 3) sc_swapped.nd rfl (Or.inl rfl) (pe_callTy call_list_of rfl T.z_list bt_list (pa_cons (pv 0) pa_nil)))
(pss_cons (ps_asg (pe_ix ix_list (pv 0) (pv 2) (fun _ _ => rfl)) (pg_sub (pv 3) (pv 1) set_list))
(pss_cons (ps_asg (pe_ix ix_list (pv 0) (pv 1) (fun _ _ => rfl)) (pg_sub (pv 3) (pv 2) set_list))
(pss_one (ps_ret (pv 3)))))), ?_⟩
  refine ⟨_, rfl, r, _, rfl, .inl (SqL.of hrow), fun p hp => ?_⟩
  obtain ⟨s1, n1⟩ := new_pair (o := .lst (ns.map V.int)) hp
  have hrp : r ≠ p := ne_of_none hrow hp
  have ix : ∀ m : Nat, m < ns.length → ∀ xs : List V, xs.length = ns.length → ixN xs.length (m : Int) = some m := fun m hm xs hx => by
    unfold ixN
    rw [if_pos (by omega), if_pos (by omega)]
    rfl
  refine ⟨_, rfl, _, rfl, _, _, _, _, rfl, rfl, SqL.of (s1 _ _ hrow), aj, _, rfl, _, rfl, p, _, _, i, rfl, rfl, n1, ix i hi _ (by simp), ?_⟩
  refine ⟨_, rfl, _, rfl, _, _, _, _, rfl, rfl, SqL.of (by rw [upd_ne hrp]; exact s1 _ _ hrow), ai, _, rfl, _, rfl, p, _, _, j, rfl, rfl, upd_same, ix j hj _ (by simp), ?_⟩
  refine ⟨_, rfl, q p _ hp ((s1.put hp).put hp) ?_⟩
  rw [upd_same]
  show some (HO.lst (((ns.map V.int).set i (V.int (ns.getD j 0))).set j (V.int (ns.getD i 0)))) = _
  rw [← List.map_set, ← List.map_set]
  rfl
theorem sc_moved : FnScope ["row", "one", "other", "rest"] ["row", "one", "other"] (defScope s_moved) := ⟨rfl, rfl, rfl, by decide +kernel, rfl, by decide +kernel, by decide +kernel⟩
theorem ok_moved (T : Txt K mg A D) {k : Nat} : FnOk P w K mg base (CXF P w) (k + 1) A.moved D.moved ["row", "one", "other"] (spRowF moveL) := by
  refine T.F_moved.okF sc_moved (fun vs H Q E h => ?_) (fun cdv A' outer s H vs Q E hr h => ?_)
  · obtain ⟨_, _, _, _, rfl, _⟩ := h
    rfl
  obtain ⟨r, ns, i, j, rfl, hrow, hin, hl, q⟩ := h
  obtain ⟨⟨hi0, hi1⟩, hj0, hj1⟩ := hin
  obtain ⟨i, rfl⟩ : ∃ m : Nat, i = m := ⟨i.toNat, by omega⟩
  obtain ⟨j, rfl⟩ : ∃ m : Nat, j = m := ⟨j.toNat, by omega⟩
  have hi : i < ns.length := by omega
  have ai : atI (ns.map V.int) (i : Int) = some (.int (ns.getD i 0)) := atI_nat (by rw [List.getElem?_map, List.getElem?_eq_getElem hi, getD_at hi]; rfl)
  have hzl : (ns.map V.int).length ≤ 100 := by rw [List.length_map]; exact hl
  have cl : ∀ (xs : List V) a b, xs.length ≤ 200 → (cutV xs a b).length ≤ 200 := fun xs a b h => Nat.le_trans (cutV_length _ _ _) h
  refine ⟨_, (pss_cons (ps_set (i := 3) sc_moved.nd rfl (Or.inl rfl) (pe_op op_cat (pe_slice sl_list (pv 0) po_none (po_some (pv 1))) (pe_slice sl_list (pv 0) (po_some (pe_op op_add (pv 1) pe_int)) po_none)))
(pss_one (ps_ret (pe_op op_cat (pe_op op_cat (pe_slice sl_list (pv 3) po_none (po_some (pv 2))) (pe_lst (pa_cons (pe_ix ix_list (pv 0) (pv 1) (fun _ _ => rfl)) pa_nil))) (pe_slice sl_list (pv 3) (po_some (pv 2)) po_none))))), ?_⟩
  refine ⟨_, rfl, _, rfl, _, rfl, r, _, rfl, SqL.of hrow, fun p1 hp1 => ?_⟩
  obtain ⟨s1, n1⟩ := new_pair (o := .lst (cutV (ns.map V.int) none (some (i : Int)))) hp1
  refine ⟨_, rfl, _, rfl, _, _, rfl, rfl, _, rfl, r, _, rfl, SqL.of (s1 _ _ hrow), fun p2 hp2 => ?_⟩
  obtain ⟨s2, n2⟩ := new_pair (o := .lst (cutV (ns.map V.int) (some ((i : Int) + 1)) none)) hp2
  have c1 := Nat.le_trans (cutV_length (ns.map V.int) none (some (i : Int))) hzl
  have c2 := Nat.le_trans (cutV_length (ns.map V.int) (some ((i : Int) + 1)) none) hzl
  refine ⟨_, _, _, _, rfl, rfl, s2 _ _ n1, n2, (by rw [sizeLine_eq]; omega), fun p3 hp3 => ?_⟩
  have e1 : (i : Int) + 1 = ((i + 1 : Nat) : Int) := by omega
  have ze : cutV (ns.map V.int) none (some (i : Int)) ++ cutV (ns.map V.int) (some ((i : Int) + 1)) none = (ns.take i ++ ns.drop (i + 1)).map V.int := by
    rw [e1, cut_take, cut_drop, List.map_append, List.map_take, List.map_drop]
  rw [ze]
  have hR : ((ns.take i ++ ns.drop (i + 1)).map V.int).length ≤ 200 := by
    rw [List.length_map, List.length_append, List.length_take, List.length_drop]
    omega
  generalize hRe : ns.take i ++ ns.drop (i + 1) = R at hR ⊢
  obtain ⟨s3, n3⟩ := new_pair (o := .lst (R.map V.int)) hp3
  have s13 := (s1.trans s2).trans s3
  refine ⟨_, rfl, _, rfl, _, rfl, p3, _, rfl, SqL.of n3, fun p4 hp4 => ?_⟩
  obtain ⟨s4, n4⟩ := new_pair (o := .lst (cutV (R.map V.int) none (some (j : Int)))) hp4
  refine ⟨_, rfl, _, rfl, _, _, _, _, rfl, rfl, SqL.of (s4 _ _ (s13 _ _ hrow)), ai, (by show 1 ≤ sizeLine; decide), fun p5 hp5 => ?_⟩
  obtain ⟨s5, n5⟩ := new_pair (o := .lst [V.int (ns.getD i 0)]) hp5
  have c3 := cl (R.map V.int) none (some (j : Int)) hR
  have c4 := cl (R.map V.int) (some (j : Int)) none hR
  refine ⟨_, _, _, _, rfl, rfl, s5 _ _ n4, n5, (by rw [sizeLine_eq]; show _ + 1 ≤ _; omega), fun p6 hp6 => ?_⟩
  obtain ⟨s6, n6⟩ := new_pair (o := .lst (cutV (R.map V.int) none (some (j : Int)) ++ [V.int (ns.getD i 0)])) hp6
  have s46 := (s4.trans s5).trans s6
  refine ⟨_, rfl, _, rfl, _, rfl, p3, _, rfl, SqL.of (s46 _ _ n3), fun p7 hp7 => ?_⟩
  obtain ⟨s7, n7⟩ := new_pair (o := .lst (cutV (R.map V.int) (some (j : Int)) none)) hp7
  refine ⟨_, _, _, _, rfl, rfl, s7 _ _ n6, n7, (by rw [sizeLine_eq, List.length_append]; show _ + 1 + _ ≤ _; omega), fun p8 hp8 => ?_⟩
  have s17 := (s13.trans s46).trans s7
  obtain ⟨s8, n8⟩ := new_pair (o := .lst ((cutV (R.map V.int) none (some (j : Int)) ++ [V.int (ns.getD i 0)]) ++ cutV (R.map V.int) (some (j : Int)) none)) hp8
  refine q p8 _ (s17.free hp8) (s17.trans s8) (n8.trans ?_)
  show _ = some (HO.lst ((moveL ns i j).map V.int))
  unfold moveL
  rw [hRe, cut_take, cut_drop, List.map_append, List.map_append, List.map_take, List.map_drop]
  rfl
theorem sc_turned : FnScope ["row", "one", "other", "start", "behind"] ["row", "one", "other"] (defScope s_turned) := ⟨rfl, rfl, rfl, by decide +kernel, rfl, by decide +kernel, by decide +kernel⟩
theorem ok_turned (T : Txt K mg A D) {k : Nat} : FnOk P w K mg base (CXF P w) (k + 1) A.turned D.turned ["row", "one", "other"] (spRowF turnL) := by
  refine T.F_turned.okF sc_turned (fun vs H Q E h => ?_) (fun cdv A' outer s H vs Q E hr h => ?_)
  · obtain ⟨_, _, _, _, rfl, _⟩ := h
    rfl
  obtain ⟨r, ns, i, j, rfl, hrow, hin, hl, q⟩ := h
  obtain ⟨⟨hi0, hi1⟩, hj0, hj1⟩ := hin
  obtain ⟨i, rfl⟩ : ∃ m : Nat, i = m := ⟨i.toNat, by omega⟩
  obtain ⟨j, rfl⟩ : ∃ m : Nat, j = m := ⟨j.toNat, by omega⟩
  have hzl : (ns.map V.int).length ≤ 100 := by rw [List.length_map]; exact hl
  have elo : (if (j : Int) < (i : Int) then (j : Int) else (i : Int)) = ((min i j : Nat) : Int) := by split <;> omega
  have ehi : (if (j : Int) > (i : Int) then (j : Int) else (i : Int)) + 1 = ((max i j + 1 : Nat) : Int) := by split <;> omega
  refine ⟨_, (pss_cons (ps_set (i := 3) sc_turned.nd rfl (Or.inl rfl) (pe_callB (call_min2 rfl) rfl T.z_min bt_min (pa_cons (pv 1) (pa_cons (pv 2) pa_nil))))
(pss_cons (ps_set (i := 4) sc_turned.nd rfl (Or.inl rfl) (pe_op op_add (pe_callB (call_max2 rfl) rfl T.z_max bt_max (pa_cons (pv 1) (pa_cons (pv 2) pa_nil))) pe_int))
(pss_one (ps_ret (pe_op op_cat (pe_op op_cat (pe_slice sl_list (pv 0) po_none (po_some (pv 3))) (pe_lrev rfl rfl T.z_list rfl T.z_reversed (pe_slice sl_list (pv 0) (po_some (pv 3)) (po_some (pv 4))))) (pe_slice sl_list (pv 0) (po_some (pv 4)) po_none)))))), ?_⟩
  refine ⟨_, rfl, _, rfl, _, _, rfl, ?_⟩
  refine ⟨_, rfl, _, rfl, _, _, rfl, _, _, rfl, rfl, ?_⟩
  dsimp only
  rw [elo, ehi]
  refine ⟨_, rfl, _, rfl, _, rfl, r, _, rfl, SqL.of hrow, fun p1 hp1 => ?_⟩
  obtain ⟨s1, n1⟩ := new_pair (o := .lst (cutV (ns.map V.int) none (some ((min i j : Nat) : Int)))) hp1
  refine ⟨_, rfl, _, rfl, _, rfl, _, rfl, _, rfl, r, _, rfl, SqL.of (s1 _ _ hrow), fun p2 hp2 => ?_⟩
  obtain ⟨s2, n2⟩ := new_pair (o := .lst (cutV (ns.map V.int) (some ((min i j : Nat) : Int)) (some ((max i j + 1 : Nat) : Int)))) hp2
  refine ⟨p2, _, rfl, SqL.of n2, fun p3 hp3 => ?_⟩
  obtain ⟨s3, n3⟩ := new_pair (o := .lst (cutV (ns.map V.int) (some ((min i j : Nat) : Int)) (some ((max i j + 1 : Nat) : Int))).reverse) hp3
  have c1 := Nat.le_trans (cutV_length (ns.map V.int) none (some ((min i j : Nat) : Int))) hzl
  have c2 := Nat.le_trans (cutV_length (ns.map V.int) (some ((min i j : Nat) : Int)) (some ((max i j + 1 : Nat) : Int))) hzl
  have c3 := Nat.le_trans (cutV_length (ns.map V.int) (some ((max i j + 1 : Nat) : Int)) none) hzl
  refine ⟨_, _, _, _, rfl, rfl, s3 _ _ (s2 _ _ n1), n3, (by rw [sizeLine_eq, List.length_reverse]; omega), fun p4 hp4 => ?_⟩
  obtain ⟨s4, n4⟩ := new_pair (o := .lst (cutV (ns.map V.int) none (some ((min i j : Nat) : Int)) ++ (cutV (ns.map V.int) (some ((min i j : Nat) : Int)) (some ((max i j + 1 : Nat) : Int))).reverse)) hp4
  have s14 := ((s1.trans s2).trans s3).trans s4
  refine ⟨_, rfl, _, rfl, _, rfl, r, _, rfl, SqL.of (s14 _ _ hrow), fun p5 hp5 => ?_⟩
  obtain ⟨s5, n5⟩ := new_pair (o := .lst (cutV (ns.map V.int) (some ((max i j + 1 : Nat) : Int)) none)) hp5
  refine ⟨_, _, _, _, rfl, rfl, s5 _ _ n4, n5, (by rw [sizeLine_eq, List.length_append, List.length_reverse]; omega), fun p6 hp6 => ?_⟩
  have s15 := s14.trans s5
  obtain ⟨s6, n6⟩ := new_pair (o := .lst ((cutV (ns.map V.int) none (some ((min i j : Nat) : Int)) ++ (cutV (ns.map V.int) (some ((min i j : Nat) : Int)) (some ((max i j + 1 : Nat) : Int))).reverse) ++ cutV (ns.map V.int) (some ((max i j + 1 : Nat) : Int)) none)) hp6
  refine q p6 _ (s15.free hp6) (s15.trans s6) (n6.trans ?_)
  show _ = some (HO.lst ((turnL ns i j).map V.int))
  unfold turnL
  rw [cut_take, cut_drop, cut_mid (by rw [List.length_map]; omega) (by omega), List.map_append, List.map_append, List.map_take, List.map_drop, List.map_reverse, List.map_take, List.map_drop]
theorem sc_Laid_init : FnScope ["self", "web", "order"] ["self", "web", "order"] (defScope s_Laid_init) := ⟨rfl, rfl, rfl, by decide +kernel, rfl, by decide +kernel, by decide +kernel⟩
theorem ok_Laid_init (T : Txt K mg A D) {k : Nat} (G_look_both : FnOk P w K mg base (CXF P w) k A.look_both D.look_both ["web", "order"] (spBoth A.er)) : FnOk P w K mg base (CXF P w) (k + 1) A.Laid_init D.Laid_init ["self", "web", "order"] (spInit A.er A.Laid) := by
  refine T.F_Laid_init.okF sc_Laid_init (fun vs H Q E h => ?_) (fun cdv A' outer s H vs Q E hr h => ?_)
  · obtain ⟨_, _, _, _, _, _, _, rfl, _⟩ := h
    rfl
  obtain ⟨x, dx, v, l, n, ts, ns, rfl, hx, b, q⟩ := h
  refine ⟨_, (pss_cons (ps_expr (pe_call G_look_both hr rfl T.m_look_both T.F_look_both.kp T.b_look_both .nil passes_cx (pa_cons (pv 1) (pa_cons (pv 2) pa_nil))))
(pss_cons (ps_fld (pv 0) (pe_tup (pa_cons (pe_ix ix_tup (pv 1) pe_int (fun _ _ => rfl)) (pa_cons (pe_callTy call_list_of rfl T.z_list bt_list (pa_cons (pe_ix ix_tup (pv 1) pe_int (fun _ _ => rfl)) pa_nil)) pa_nil))) rfl)
(pss_cons (ps_fld (pv 0) (pe_callTy call_list_of rfl T.z_list bt_list (pa_cons (pv 2) pa_nil)) rfl)
(pss_one (ps_fld (pv 0) (pe_lst pa_nil) rfl))))), ?_⟩
  refine ⟨_, rfl, _, rfl, v, l, n, ts, ns, rfl, b, fun hw ho H1 e1 => ?_⟩
  obtain ⟨a, tl, xs, rfl, ha0, hl0, dl0⟩ := web_of b.web
  have ha := e1 _ _ ha0
  have hl := e1 _ _ hl0
  have hx1 := e1 _ _ hx
  -- web
  refine ⟨_, rfl, _, _, _, _, rfl, rfl, SqT.of ha, rfl, _, rfl, _, _, _, _, rfl, rfl, SqT.of ha, rfl, tl, xs, rfl, .inl (SqL.of hl), fun l2 hl2 => ⟨(by show 2 ≤ sizeLine; decide), fun w1 hw1 => ?_⟩⟩
  obtain ⟨s2, n2⟩ := new_pair (o := .lst xs) hl2
  obtain ⟨s3, n3⟩ := new_pair (o := .tup [V.int n, V.ref l2]) hw1
  have e3 := (e1.trans s2).trans s3
  have hx3 := e3 _ _ hx
  refine ⟨_, rfl, x, A.Laid, dx, _, rfl, hx3, T.cl_Laid, T.n_Laid_web, (by show 0 < 1000; decide), ?_⟩
  have w1x : w1 ≠ x := (ne_of_none (s2 _ _ hx1) hw1).symm
  have l2x : l2 ≠ x := (ne_of_none hx1 hl2).symm
  have M1 := mask_mono (D := x) e1
  have M3 := mask_mono (D := x) (s2.trans s3)
  have aw := (mask_ne w1x).trans n3
  have al := (mask_ne l2x).trans (s3 _ _ n2)
  -- row
  have hx4 : ∀ {Hz : Hp} {o : HO}, upd Hz x o x = some o := fun {_ _} => upd_same
  have hlx : l ≠ x := fun z => by have := e1 _ _ b.ord; rw [z, hx1] at this; cases this
  have hord3 := e3 _ _ b.ord
  refine ⟨_, rfl, l, _, rfl, .inl (SqL.of ((upd_ne hlx).trans hord3)), fun r hr4 => ?_⟩
  have hrx : r ≠ x := (ne_of_none upd_same hr4).symm
  obtain ⟨s4, n4⟩ := new_pair (o := .lst (ns.map V.int)) hr4
  refine ⟨_, rfl, x, A.Laid, dx, _, rfl, s4 _ _ upd_same, T.cl_Laid, T.n_Laid_row, (by show 1 < 1000; decide), ?_⟩
  have M4 := mask_mono (D := x) s4
  rw [mask_upd] at M4
  have ar := (mask_ne hrx).trans n4
  -- past
  refine ⟨Nat.zero_le _, fun pa hpa => ?_⟩
  have hpx : pa ≠ x := (ne_of_none upd_same hpa).symm
  have M5 := mask2_new (x := x) (o := .lst []) hpa
  rw [mask_upd] at M5
  have h5 : ∀ {Hz : Hp} {o : HO}, upd (upd Hz x o) pa (.lst []) x = some o := fun {_ _} => by rw [upd_ne (Ne.symm hpx), upd_same]
  refine ⟨_, rfl, x, A.Laid, dx, _, rfl, h5, T.cl_Laid, T.n_Laid_past, (by
    have e := length_putF "row" (V.ref r) (putF "web" (V.ref w1) [])
    have e' : (putF "web" (V.ref w1) []).length = 1 := rfl
    omega), ?_⟩
  have hpaH : H pa = none := by
    cases z : H pa with
    | none => rfl
    | some o =>
      have z1 := M1 _ _ ((mask_ne hpx).trans z)
      have z2 := M4 _ _ (M3 _ _ z1)
      have z3 := (mask_some z2).2
      rw [upd_ne hpx] at hpa
      rw [z3] at hpa
      cases hpa
  have fresh : ∀ {c : Addr}, c ≠ x → H1 c = none → mask x H c = none := fun {c} h1 h2 => (mask_ne h1).trans (e1.free h2)
  have hw1' : H1 w1 = none := s2.free hw1
  have hr1' : H1 r = none := by
    have z : upd H1 l2 (HO.lst xs) r = none := by
      rw [upd_ne hrx] at hr4
      exact s3.free hr4
    exact s2.free z
  have mxx : mask x H x = none := by unfold mask; rw [if_pos rfl]
  have w1p : w1 ≠ pa := fun z => by
    have z1 := (mask_some (M4 _ _ aw)).2
    rw [upd_ne hpx, ← z] at hpa
    rw [z1] at hpa
    cases hpa
  have l2p : l2 ≠ pa := fun z => by
    have z1 := (mask_some (M4 _ _ al)).2
    rw [upd_ne hpx, ← z] at hpa
    rw [z1] at hpa
    cases hpa
  have rp : r ≠ pa := fun z => by
    rw [upd_ne hpx, ← z] at hpa
    rw [n4] at hpa
    cases hpa
  refine q hw ho pa _ hpaH ?_ ⟨dx, w1, r, [], ?_, ?_, ?_, ?_, DatL.nil⟩
  · rw [mask2_x]
    exact ((M1.trans M3).trans M4).trans M5
  · rw [newT_none mxx]
    exact upd_same
  · rw [newT_none ((mask_ne hpx).trans hpaH), upd_ne hpx]
    exact upd_same
  · refine web_mk (mask3_at w1x w1p rfl ((newT_none (fresh w1x hw1')).trans ((upd_ne w1x).trans ((mask2_some (M5 _ _ (M4 _ _ aw))).2.2)))) (mask3_at l2x l2p rfl ((newT_none (fresh l2x hl2)).trans ((upd_ne l2x).trans ((mask2_some (M5 _ _ (M4 _ _ al))).2.2)))) (ties_mono (fun c ys z => ?_) dl0)
    have cx : c ≠ x := fun y => by rw [y, hx] at z; cases z
    have z1 : mask x H c = some (.tup ys) := (mask_ne cx).trans z
    have z5 := mask2_some (M5 _ _ (M4 _ _ (M3 _ _ (M1 _ _ z1))))
    exact mask3_at cx z5.2.1 rfl ((newT_tup z1).trans ((upd_ne cx).trans z5.2.2))
  · exact mask3_at hrx rp rfl ((newT_none (fresh hrx hr1')).trans ((upd_ne hrx).trans ((mask2_some (M5 _ _ ar)).2.2)))
theorem sc_Laid_lay : FnScope ["self", "row"] ["self", "row"] (defScope s_Laid_lay) := ⟨rfl, rfl, rfl, by decide +kernel, rfl, by decide +kernel, by decide +kernel⟩
theorem ok_Laid_lay (T : Txt K mg A D) {k : Nat} : FnOk P w K mg base (CXF P w) (k + 1) A.Laid_lay D.Laid_lay ["self", "row"] (spLay A.Laid) := by
  refine T.F_Laid_lay.okF sc_Laid_lay (fun vs H Q E h => ?_) (fun cdv A' outer s H vs Q E hr h => ?_)
  · obtain ⟨_, _, _, _, _, _, _, rfl, _⟩ := h
    rfl
  obtain ⟨x, r, dx, wa, ra, pa, ps, rfl, hx, hpa, hl, q⟩ := h
  refine ⟨_, (pss_cons (ps_expr (pe_bm PySem.F.plainAttrs_list PySem.F.slot_list_append PySem.F.type_list_append mt_append (pe_fld (pv 0) rfl) (pa_cons (pe_fld (pv 0) rfl) pa_nil)))
(pss_one (ps_fld (pv 0) (pv 1) rfl))), ?_⟩
  have hxp : x ≠ pa := ne_of hx hpa (fun z => by cases z)
  refine ⟨_, rfl, x, A.Laid, dx, _, _, rfl, hx, T.cl_Laid, T.n_Laid_past, laid_past _ _ _, .inl ⟨rfl, _, SqL.of hpa⟩, _, rfl, x, A.Laid, dx, _, _, rfl, hx, T.cl_Laid, T.n_Laid_row, laid_row _ _ _, pa, ps, _, rfl, rfl, hpa, (by rw [sizeLine_eq]; omega), ?_⟩
  refine ⟨_, rfl, _, rfl, x, A.Laid, dx, _, rfl, (upd_ne hxp).trans hx, T.cl_Laid, T.n_Laid_row, laid_len _ _ _, ?_⟩
  rw [laid_put]
  exact q
theorem sc_Laid_swap : FnScope ["self", "one", "other"] ["self", "one", "other"] (defScope s_Laid_swap) := ⟨rfl, rfl, rfl, by decide +kernel, rfl, by decide +kernel, by decide +kernel⟩
theorem ok_Laid_swap (T : Txt K mg A D) {k : Nat} (G_look_spots : FnOk P w K mg base (CXF P w) k A.look_spots D.look_spots ["row", "one", "other"] (spSpots2 A.er)) (G_Laid_lay : FnOk P w K mg base (CXF P w) k A.Laid_lay D.Laid_lay ["self", "row"] (spLay A.Laid)) (G_swapped : FnOk P w K mg base (CXF P w) k A.swapped D.swapped ["row", "one", "other"] (spRowF swapL)) :
    FnOk P w K mg base (CXF P w) (k + 1) A.Laid_swap D.Laid_swap ["self", "one", "other"] (spDeed A.er A.Laid swapL) := by
  refine T.F_Laid_swap.okF sc_Laid_swap (fun vs H Q E h => ?_) (fun cdv A' outer s H vs Q E hr h => ?_)
  · obtain ⟨_, _, _, _, _, _, _, _, _, rfl, _⟩ := h
    rfl
  obtain ⟨Z, x, pa, i, j, n, ts, cur, past, rfl, hZ, hL, hcl, hpl, si, sj, qn, qe⟩ := h
  obtain ⟨dx, wa, ra, ps, hx, hpa, dw, hra, dps⟩ := hL.ex
  have hra' := (mask3_some hra)
  refine ⟨_, (pss_cons (ps_expr (pe_call G_look_spots hr rfl T.m_look_spots T.F_look_spots.kp T.b_look_spots .nil passes_cx (pa_cons (pe_fld (pv 0) rfl) (pa_cons (pv 1) (pa_cons (pv 2) pa_nil)))))
(pss_one (ps_expr (pe_meth (pv 0) T.cl_Laid T.me_Laid_lay G_Laid_lay hr T.b_Laid_lay .nil pass0F (pa_cons (pe_call G_swapped hr rfl T.m_swapped T.F_swapped.kp T.b_swapped .nil pass0F (pa_cons (pe_fld (pv 0) rfl) (pa_cons (pv 1) (pa_cons (pv 2) pa_nil)))) pa_nil))))), ?_⟩
  refine ⟨_, rfl, x, A.Laid, dx, _, _, rfl, hx, T.cl_Laid, T.n_Laid_row, laid_row _ _ _, _, rfl, _, rfl, ra, cur, i, j, rfl, hra'.2.2.1, si, sj, fun hin H1 e1 => ?_, fun hin H1 e1 => qe hin H1 e1⟩
  refine ⟨_, rfl, x, dx, _, rfl, e1 _ _ hx, laid_no _ _ _ (by decide +kernel) (by decide +kernel) (by decide +kernel), _, rfl, x, A.Laid, dx, _, _, rfl, e1 _ _ hx, T.cl_Laid, T.n_Laid_row, laid_row _ _ _, _, rfl, _, rfl, ra, cur, i, j, rfl, e1 _ _ hra'.2.2.1, hin, hcl, fun p H2 hp e2 hp2 => ?_⟩
  have hps : ps.length ≤ 1000 := by
    have := dps.length
    rw [List.length_map] at this
    omega
  refine ⟨x, p, dx, wa, ra, pa, ps, rfl, e2 _ _ (e1 _ _ hx), e2 _ _ (e1 _ _ hpa), hps, ?_⟩
  have px : p ≠ x := (ne_of_none (e1 _ _ hx) hp).symm
  have pp : p ≠ pa := (ne_of_none (e1 _ _ hpa) hp).symm
  have hxp : x ≠ pa := ne_of hx hpa (fun z => by cases z)
  have em2 := mask2_mono (x := x) (p := pa) (e1.trans e2)
  have em := mask3_mono (Z := Z) (x := x) (p := pa) (e1.trans e2)
  have hzp : Z p = false := notZ hZ e1 hp
  refine qn hin _ ⟨dx, wa, p, _, upd_same, (upd_ne (Ne.symm hxp)).trans upd_same, ?_, ?_, ?_⟩ ?_
  · rw [mask3_x, mask3_p]
    exact dw.mono em
  · rw [mask3_x, mask3_p]
    exact mask3_at px pp hzp hp2
  · rw [mask3_x, mask3_p, List.map_append]
    exact (dps.mono em).append (.cons (Dat.ints (em _ _ hra)) .nil)
  · rw [mask2_x, mask2_p]
    exact em2
theorem sc_Laid_move : FnScope ["self", "one", "other"] ["self", "one", "other"] (defScope s_Laid_move) := ⟨rfl, rfl, rfl, by decide +kernel, rfl, by decide +kernel, by decide +kernel⟩
theorem ok_Laid_move (T : Txt K mg A D) {k : Nat} (G_look_spots : FnOk P w K mg base (CXF P w) k A.look_spots D.look_spots ["row", "one", "other"] (spSpots2 A.er)) (G_Laid_lay : FnOk P w K mg base (CXF P w) k A.Laid_lay D.Laid_lay ["self", "row"] (spLay A.Laid)) (G_moved : FnOk P w K mg base (CXF P w) k A.moved D.moved ["row", "one", "other"] (spRowF moveL)) :
    FnOk P w K mg base (CXF P w) (k + 1) A.Laid_move D.Laid_move ["self", "one", "other"] (spDeed A.er A.Laid moveL) := by
  refine T.F_Laid_move.okF sc_Laid_move (fun vs H Q E h => ?_) (fun cdv A' outer s H vs Q E hr h => ?_)
  · obtain ⟨_, _, _, _, _, _, _, _, _, rfl, _⟩ := h
    rfl
  obtain ⟨Z, x, pa, i, j, n, ts, cur, past, rfl, hZ, hL, hcl, hpl, si, sj, qn, qe⟩ := h
  obtain ⟨dx, wa, ra, ps, hx, hpa, dw, hra, dps⟩ := hL.ex
  have hra' := (mask3_some hra)
  refine ⟨_, (pss_cons (ps_expr (pe_call G_look_spots hr rfl T.m_look_spots T.F_look_spots.kp T.b_look_spots .nil passes_cx (pa_cons (pe_fld (pv 0) rfl) (pa_cons (pv 1) (pa_cons (pv 2) pa_nil)))))
(pss_one (ps_expr (pe_meth (pv 0) T.cl_Laid T.me_Laid_lay G_Laid_lay hr T.b_Laid_lay .nil pass0F (pa_cons (pe_call G_moved hr rfl T.m_moved T.F_moved.kp T.b_moved .nil pass0F (pa_cons (pe_fld (pv 0) rfl) (pa_cons (pv 1) (pa_cons (pv 2) pa_nil)))) pa_nil))))), ?_⟩
  refine ⟨_, rfl, x, A.Laid, dx, _, _, rfl, hx, T.cl_Laid, T.n_Laid_row, laid_row _ _ _, _, rfl, _, rfl, ra, cur, i, j, rfl, hra'.2.2.1, si, sj, fun hin H1 e1 => ?_, fun hin H1 e1 => qe hin H1 e1⟩
  refine ⟨_, rfl, x, dx, _, rfl, e1 _ _ hx, laid_no _ _ _ (by decide +kernel) (by decide +kernel) (by decide +kernel), _, rfl, x, A.Laid, dx, _, _, rfl, e1 _ _ hx, T.cl_Laid, T.n_Laid_row, laid_row _ _ _, _, rfl, _, rfl, ra, cur, i, j, rfl, e1 _ _ hra'.2.2.1, hin, hcl, fun p H2 hp e2 hp2 => ?_⟩
  have hps : ps.length ≤ 1000 := by
    have := dps.length
    rw [List.length_map] at this
    omega
  refine ⟨x, p, dx, wa, ra, pa, ps, rfl, e2 _ _ (e1 _ _ hx), e2 _ _ (e1 _ _ hpa), hps, ?_⟩
  have px : p ≠ x := (ne_of_none (e1 _ _ hx) hp).symm
  have pp : p ≠ pa := (ne_of_none (e1 _ _ hpa) hp).symm
  have hxp : x ≠ pa := ne_of hx hpa (fun z => by cases z)
  have em2 := mask2_mono (x := x) (p := pa) (e1.trans e2)
  have em := mask3_mono (Z := Z) (x := x) (p := pa) (e1.trans e2)
  have hzp : Z p = false := notZ hZ e1 hp
  refine qn hin _ ⟨dx, wa, p, _, upd_same, (upd_ne (Ne.symm hxp)).trans upd_same, ?_, ?_, ?_⟩ ?_
  · rw [mask3_x, mask3_p]
    exact dw.mono em
  · rw [mask3_x, mask3_p]
    exact mask3_at px pp hzp hp2
  · rw [mask3_x, mask3_p, List.map_append]
    exact (dps.mono em).append (.cons (Dat.ints (em _ _ hra)) .nil)
  · rw [mask2_x, mask2_p]
    exact em2
theorem sc_Laid_turn : FnScope ["self", "one", "other"] ["self", "one", "other"] (defScope s_Laid_turn) := ⟨rfl, rfl, rfl, by decide +kernel, rfl, by decide +kernel, by decide +kernel⟩
theorem ok_Laid_turn (T : Txt K mg A D) {k : Nat} (G_look_spots : FnOk P w K mg base (CXF P w) k A.look_spots D.look_spots ["row", "one", "other"] (spSpots2 A.er)) (G_Laid_lay : FnOk P w K mg base (CXF P w) k A.Laid_lay D.Laid_lay ["self", "row"] (spLay A.Laid)) (G_turned : FnOk P w K mg base (CXF P w) k A.turned D.turned ["row", "one", "other"] (spRowF turnL)) :
    FnOk P w K mg base (CXF P w) (k + 1) A.Laid_turn D.Laid_turn ["self", "one", "other"] (spDeed A.er A.Laid turnL) := by
  refine T.F_Laid_turn.okF sc_Laid_turn (fun vs H Q E h => ?_) (fun cdv A' outer s H vs Q E hr h => ?_)
  · obtain ⟨_, _, _, _, _, _, _, _, _, rfl, _⟩ := h
    rfl
  obtain ⟨Z, x, pa, i, j, n, ts, cur, past, rfl, hZ, hL, hcl, hpl, si, sj, qn, qe⟩ := h
  obtain ⟨dx, wa, ra, ps, hx, hpa, dw, hra, dps⟩ := hL.ex
  have hra' := (mask3_some hra)
  refine ⟨_, (pss_cons (ps_expr (pe_call G_look_spots hr rfl T.m_look_spots T.F_look_spots.kp T.b_look_spots .nil passes_cx (pa_cons (pe_fld (pv 0) rfl) (pa_cons (pv 1) (pa_cons (pv 2) pa_nil)))))
(pss_one (ps_expr (pe_meth (pv 0) T.cl_Laid T.me_Laid_lay G_Laid_lay hr T.b_Laid_lay .nil pass0F (pa_cons (pe_call G_turned hr rfl T.m_turned T.F_turned.kp T.b_turned .nil pass0F (pa_cons (pe_fld (pv 0) rfl) (pa_cons (pv 1) (pa_cons (pv 2) pa_nil)))) pa_nil))))), ?_⟩
  refine ⟨_, rfl, x, A.Laid, dx, _, _, rfl, hx, T.cl_Laid, T.n_Laid_row, laid_row _ _ _, _, rfl, _, rfl, ra, cur, i, j, rfl, hra'.2.2.1, si, sj, fun hin H1 e1 => ?_, fun hin H1 e1 => qe hin H1 e1⟩
  refine ⟨_, rfl, x, dx, _, rfl, e1 _ _ hx, laid_no _ _ _ (by decide +kernel) (by decide +kernel) (by decide +kernel), _, rfl, x, A.Laid, dx, _, _, rfl, e1 _ _ hx, T.cl_Laid, T.n_Laid_row, laid_row _ _ _, _, rfl, _, rfl, ra, cur, i, j, rfl, e1 _ _ hra'.2.2.1, hin, hcl, fun p H2 hp e2 hp2 => ?_⟩
  have hps : ps.length ≤ 1000 := by
    have := dps.length
    rw [List.length_map] at this
    omega
  refine ⟨x, p, dx, wa, ra, pa, ps, rfl, e2 _ _ (e1 _ _ hx), e2 _ _ (e1 _ _ hpa), hps, ?_⟩
  have px : p ≠ x := (ne_of_none (e1 _ _ hx) hp).symm
  have pp : p ≠ pa := (ne_of_none (e1 _ _ hpa) hp).symm
  have hxp : x ≠ pa := ne_of hx hpa (fun z => by cases z)
  have em2 := mask2_mono (x := x) (p := pa) (e1.trans e2)
  have em := mask3_mono (Z := Z) (x := x) (p := pa) (e1.trans e2)
  have hzp : Z p = false := notZ hZ e1 hp
  refine qn hin _ ⟨dx, wa, p, _, upd_same, (upd_ne (Ne.symm hxp)).trans upd_same, ?_, ?_, ?_⟩ ?_
  · rw [mask3_x, mask3_p]
    exact dw.mono em
  · rw [mask3_x, mask3_p]
    exact mask3_at px pp hzp hp2
  · rw [mask3_x, mask3_p, List.map_append]
    exact (dps.mono em).append (.cons (Dat.ints (em _ _ hra)) .nil)
  · rw [mask2_x, mask2_p]
    exact em2
theorem sc_Laid_back : FnScope ["self"] ["self"] (defScope s_Laid_back) := ⟨rfl, rfl, rfl, by decide +kernel, rfl, by decide +kernel, by decide +kernel⟩
theorem ok_Laid_back (T : Txt K mg A D) {k : Nat} : FnOk P w K mg base (CXF P w) (k + 1) A.Laid_back D.Laid_back ["self"] (spBack A.Laid) := by
  refine T.F_Laid_back.okF sc_Laid_back (fun vs H Q E h => ?_) (fun cdv A' outer s H vs Q E hr h => ?_)
  · obtain ⟨_, _, _, _, _, _, _, rfl, _⟩ := h
    rfl
  obtain ⟨Z, x, pa, n, ts, cur, past, rfl, hZ, hL, q0, q1⟩ := h
  obtain ⟨dx, wa, ra, ps, hx, hpa, dw, hra, dps⟩ := hL.ex
  have hxp : x ≠ pa := ne_of hx hpa (fun z => by cases z)
  have hpl := dps.length
  rw [List.length_map] at hpl
  refine ⟨_, (pss_cons (ps_if (pt_cmpR op_eq (pe_callB call_len_seq rfl T.z_len PySem.boot_len (pa_cons (pe_fld (pv 0) rfl) pa_nil)) pe_int (nomark _))
(pss_one (ps_ret pe_bl))
pss_nil)
(pss_cons (ps_fld (pv 0) (pe_bm0 PySem.F.plainAttrs_list PySem.F.slot_list_pop PySem.F.type_list_pop mt_pop (pe_fld (pv 0) rfl)) rfl)
(pss_one (ps_ret pe_bl)))), ?_⟩
  refine ⟨_, rfl, x, A.Laid, dx, _, _, rfl, hx, T.cl_Laid, T.n_Laid_past, laid_past _ _ _, _, _, rfl, .inl (SqL.of hpa), rfl, _, rfl, ?_⟩
  rcases List.eq_nil_or_concat past with rfl | ⟨p, r, rfl⟩
  · have e : ps = [] := List.length_eq_zero_iff.mp hpl.symm
    subst e
    exact iteDT rfl (q0 rfl)
  · have hne : ps.length = p.length + 1 := by
      rw [← hpl]
      simp
    refine iteDF (fun z => ?_) ?_
    · have := V.int.inj z
      omega
    have hrow : ps[ps.length - 1]? = some (ps[ps.length - 1]'(by omega)) := List.getElem?_eq_getElem (by omega)
    obtain ⟨d, hd, dr⟩ := dps.getV hrow
    have hd2 : d = ordD r := by
      have hz : ps.length - 1 = p.length := by omega
      rw [hz, List.map_concat, List.concat_eq_append, List.getElem?_append_right (by simp)] at hd
      simp at hd
      exact hd.symm
    subst hd2
    obtain ⟨rr, hrr, hmr⟩ := Dat.ints_of dr
    rw [hrr] at hrow
    refine ⟨_, rfl, x, A.Laid, dx, _, _, rfl, hx, T.cl_Laid, T.n_Laid_past, laid_past _ _ _, .inl ⟨rfl, _, SqL.of hpa⟩, pa, ps, .ref rr, rfl, rfl, hpa, hrow, ?_⟩
    refine ⟨_, rfl, x, A.Laid, dx, _, rfl, (upd_ne hxp).trans hx, T.cl_Laid, T.n_Laid_row, laid_len _ _ _, ?_⟩
    rw [laid_put]
    refine q1 r p (by rw [List.concat_eq_append]) _ ⟨dx, wa, rr, ps.dropLast, upd_same, (upd_ne (Ne.symm hxp)).trans upd_same, ?_, ?_, ?_⟩ ?_
    · rw [mask3_x, mask3_p]
      exact dw
    · rw [mask3_x, mask3_p]
      exact hmr
    · rw [mask3_x, mask3_p]
      have z := dps.take p.length
      rw [← List.map_take, List.concat_eq_append, List.take_left'] at z
      · rw [List.dropLast_eq_take, hne]
        exact z
      · rfl
    · rw [mask2_x, mask2_p]
      exact Same.refl _
theorem sc_Laid_order : FnScope ["self"] ["self"] (defScope s_Laid_order) := ⟨rfl, rfl, rfl, by decide +kernel, rfl, by decide +kernel, by decide +kernel⟩
theorem ok_Laid_order (T : Txt K mg A D) {k : Nat} : FnOk P w K mg base (CXF P w) (k + 1) A.Laid_order D.Laid_order ["self"] (spLOrder A.Laid) := by
  refine T.F_Laid_order.okF sc_Laid_order (fun vs H Q E h => ?_) (fun cdv A' outer s H vs Q E hr h => ?_)
  · obtain ⟨_, _, _, _, rfl, _⟩ := h
    rfl
  obtain ⟨x, n, ts, cur, rfl, hok, q⟩ := h
  obtain ⟨pa, past, hL⟩ := hok.at_
  obtain ⟨dx, wa, ra, hx, dw, hra⟩ := hL.at
  refine ⟨_, (pss_one (ps_ret (pe_callTy call_list_of rfl T.z_list bt_list (pa_cons (pe_fld (pv 0) rfl) pa_nil)))), ?_⟩
  refine ⟨_, rfl, x, A.Laid, dx, _, _, rfl, hx, T.cl_Laid, T.n_Laid_row, laid_row _ _ _, ra, _, rfl, .inl (SqL.of hra), fun p hp => q p _ hp (same_new hp) upd_same⟩
theorem sc_Laid_gaps : FnScope ["self"] ["self"] (defScope s_Laid_gaps) := ⟨rfl, rfl, rfl, by decide +kernel, rfl, by decide +kernel, by decide +kernel⟩
theorem ok_Laid_gaps (T : Txt K mg A D) {k : Nat} (G_gaps : FnOk P w K mg base (CXF P w) k A.gaps D.gaps ["web", "order"] (spGaps A.er)) : FnOk P w K mg base (CXF P w) (k + 1) A.Laid_gaps D.Laid_gaps ["self"] (spLGapsM A.Laid) := by
  refine T.F_Laid_gaps.okF sc_Laid_gaps (fun vs H Q E h => ?_) (fun cdv A' outer s H vs Q E hr h => ?_)
  · obtain ⟨_, _, _, _, rfl, _⟩ := h
    rfl
  obtain ⟨x, n, ts, cur, rfl, hok, q⟩ := h
  obtain ⟨pa, past, hL⟩ := hok.at_
  obtain ⟨dx, wa, ra, hx, dw, hra⟩ := hL.at
  refine ⟨_, (pss_one (ps_ret (pe_call G_gaps hr rfl T.m_gaps_webs T.F_gaps.kp T.b_gaps .nil passes_cx (pa_cons (pe_fld (pv 0) rfl) (pa_cons (pe_fld (pv 0) rfl) pa_nil))))), ?_⟩
  refine ⟨_, rfl, x, A.Laid, dx, _, _, rfl, hx, T.cl_Laid, T.n_Laid_web, laid_web _ _ _, _, rfl, x, A.Laid, dx, _, _, rfl, hx, T.cl_Laid, T.n_Laid_row, laid_row _ _ _, .ref wa, ra, n, ts, cur, rfl, ⟨dw, hra, hok.win, hok.oin, fun z => ?_, fun _ z => ?_⟩, fun _ _ p H' hp e hg => q p H' hp e hg⟩
  · rw [hok.web] at z
    cases z
  · rw [hok.ord] at z
    cases z
theorem sc_Laid_longest : FnScope ["self"] ["self"] (defScope s_Laid_longest) := ⟨rfl, rfl, rfl, by decide +kernel, rfl, by decide +kernel, by decide +kernel⟩
theorem ok_Laid_longest (T : Txt K mg A D) {k : Nat} (G_longest : FnOk P w K mg base (CXF P w) k A.longest D.longest ["web", "order"] (spNum A.er longF)) : FnOk P w K mg base (CXF P w) (k + 1) A.Laid_longest D.Laid_longest ["self"] (spLNum A.Laid longF) := by
  refine T.F_Laid_longest.okF sc_Laid_longest (fun vs H Q E h => ?_) (fun cdv A' outer s H vs Q E hr h => ?_)
  · obtain ⟨_, _, _, _, rfl, _⟩ := h
    rfl
  obtain ⟨x, n, ts, cur, rfl, hok, q⟩ := h
  obtain ⟨pa, past, hL⟩ := hok.at_
  obtain ⟨dx, wa, ra, hx, dw, hra⟩ := hL.at
  refine ⟨_, (pss_one (ps_ret (pe_call G_longest hr rfl T.m_longest_webs T.F_longest.kp T.b_longest .nil passes_cx (pa_cons (pe_fld (pv 0) rfl) (pa_cons (pe_fld (pv 0) rfl) pa_nil))))), ?_⟩
  refine ⟨_, rfl, x, A.Laid, dx, _, _, rfl, hx, T.cl_Laid, T.n_Laid_web, laid_web _ _ _, _, rfl, x, A.Laid, dx, _, _, rfl, hx, T.cl_Laid, T.n_Laid_row, laid_row _ _ _, .ref wa, ra, n, ts, cur, rfl, ⟨dw, hra, hok.win, hok.oin, fun z => ?_, fun _ z => ?_⟩, fun _ _ H' e => q H' e⟩
  · rw [hok.web] at z
    cases z
  · rw [hok.ord] at z
    cases z
theorem sc_Laid_total : FnScope ["self"] ["self"] (defScope s_Laid_total) := ⟨rfl, rfl, rfl, by decide +kernel, rfl, by decide +kernel, by decide +kernel⟩
theorem ok_Laid_total (T : Txt K mg A D) {k : Nat} (G_total : FnOk P w K mg base (CXF P w) k A.total D.total ["web", "order"] (spNum A.er totF)) : FnOk P w K mg base (CXF P w) (k + 1) A.Laid_total D.Laid_total ["self"] (spLNum A.Laid totF) := by
  refine T.F_Laid_total.okF sc_Laid_total (fun vs H Q E h => ?_) (fun cdv A' outer s H vs Q E hr h => ?_)
  · obtain ⟨_, _, _, _, rfl, _⟩ := h
    rfl
  obtain ⟨x, n, ts, cur, rfl, hok, q⟩ := h
  obtain ⟨pa, past, hL⟩ := hok.at_
  obtain ⟨dx, wa, ra, hx, dw, hra⟩ := hL.at
  refine ⟨_, (pss_one (ps_ret (pe_call G_total hr rfl T.m_total_webs T.F_total.kp T.b_total .nil passes_cx (pa_cons (pe_fld (pv 0) rfl) (pa_cons (pe_fld (pv 0) rfl) pa_nil))))), ?_⟩
  refine ⟨_, rfl, x, A.Laid, dx, _, _, rfl, hx, T.cl_Laid, T.n_Laid_web, laid_web _ _ _, _, rfl, x, A.Laid, dx, _, _, rfl, hx, T.cl_Laid, T.n_Laid_row, laid_row _ _ _, .ref wa, ra, n, ts, cur, rfl, ⟨dw, hra, hok.win, hok.oin, fun z => ?_, fun _ z => ?_⟩, fun _ _ H' e => q H' e⟩
  · rw [hok.web] at z
    cases z
  · rw [hok.ord] at z
    cases z
theorem sc_Laid_best_swap : FnScope ["self", "best", "least", "one", "other", "tried"] ["self"] (defScope s_Laid_best_swap) := ⟨rfl, rfl, rfl, by decide +kernel, rfl, by decide +kernel, by decide +kernel⟩
theorem ok_Laid_best_swap (T : Txt K mg A D) {k : Nat} (G_Laid_total : FnOk P w K mg base (CXF P w) k A.Laid_total D.Laid_total ["self"] (spLNum A.Laid totF)) (G_total : FnOk P w K mg base (CXF P w) k A.total D.total ["web", "order"] (spNum A.er totF)) (G_swapped : FnOk P w K mg base (CXF P w) k A.swapped D.swapped ["row", "one", "other"] (spRowF swapL)) :
    FnOk P w K mg base (CXF P w) (k + 1) A.Laid_best_swap D.Laid_best_swap ["self"] (spLBestM A.Laid) := by
  refine T.F_Laid_best_swap.okF sc_Laid_best_swap (fun vs H Q E h => ?_) (fun cdv A' outer s H vs Q E hr h => ?_)
  · obtain ⟨_, _, _, _, rfl, _⟩ := h
    rfl
  obtain ⟨x, n, ts, cur, rfl, hok, q⟩ := h
  obtain ⟨pa, past, hL⟩ := hok.at_
  obtain ⟨dx, wa, ra, hx, dw, hra⟩ := hL.at
  obtain ⟨hol, _, _⟩ := ordOk_of hok.ord
  obtain ⟨hn0, hn8, _⟩ := webOk_of hok.web
  have hlr : ((cur.map V.int).length : Int) = cur.length := by rw [List.length_map]
  refine ⟨_, (pss_cons (ps_set (i := 1) sc_Laid_best_swap.nd rfl (Or.inl rfl) pe_non)
(pss_cons (ps_set (i := 2) sc_Laid_best_swap.nd rfl (Or.inl rfl) (pe_meth0 (pv 0) T.cl_Laid T.me_Laid_total G_Laid_total hr T.b_Laid_total .nil passes_cx))
(pss_cons (ps_for passesOwn_cx rfl (pi_range1 rfl T.z_range (pa_cons (pe_callB call_len_seq rfl T.z_len PySem.boot_len (pa_cons (pe_fld (pv 0) rfl) pa_nil)) pa_nil)) (pg_name (i := 3) sc_Laid_best_swap.nd rfl (Or.inl rfl))
(pss_one (ps_for passesOwn_cx rfl (pi_range2 rfl T.z_range (pa_cons (pe_op op_add (pv 3) pe_int) (pa_cons (pe_callB call_len_seq rfl T.z_len PySem.boot_len (pa_cons (pe_fld (pv 0) rfl) pa_nil)) pa_nil))) (pg_name (i := 4) sc_Laid_best_swap.nd rfl (Or.inl rfl))
(pss_cons (ps_set (i := 5) sc_Laid_best_swap.nd rfl (Or.inl rfl) (pe_call G_total hr rfl T.m_total_webs T.F_total.kp T.b_total .nil passes_cx (pa_cons (pe_fld (pv 0) rfl) (pa_cons (pe_call G_swapped hr rfl T.m_swapped T.F_swapped.kp T.b_swapped .nil pass0F (pa_cons (pe_fld (pv 0) rfl) (pa_cons (pv 3) (pa_cons (pv 4) pa_nil)))) pa_nil))))
(pss_one (ps_if (pt_cmpR op_lt (pv 5) (pv 2) (nomark _))
(pss_cons (ps_set (i := 1) sc_Laid_best_swap.nd rfl (Or.inl rfl) (pe_tup (pa_cons (pv 3) (pa_cons (pv 4) pa_nil))))
(pss_one (ps_set (i := 2) sc_Laid_best_swap.nd rfl (Or.inl rfl) (pv 5))))
pss_nil))))))
(pss_one (ps_ret (pv 1)))))), ?_⟩
  refine ⟨_, rfl, x, dx, _, rfl, hx, laid_no _ _ _ (by decide +kernel) (by decide +kernel) (by decide +kernel), x, n, ts, cur, rfl, hok, fun H1 e1 => ?_⟩
  have hx1 := e1 _ _ hx
  refine ⟨_, rfl, x, A.Laid, dx, _, _, rfl, hx1, T.cl_Laid, T.n_Laid_row, laid_row _ _ _, _, _, rfl, .inl (SqL.of (e1 _ _ hra)), _, rfl, by omega, by omega, ?_⟩
  rw [hlr]
  have hto : ((cur.length : Int)).toNat = cur.length := by omega
  rw [hto]
  let f : Nat × Nat → Int := fun p => totF n (swapL cur p.1 p.2) ts
  let here := totF n cur ts
  refine for_in cur.length (fun i σ H' => ∃ bv v3 v4 v5, σ = [some (.ref x), some bv, some (.int (bestTo (fun p => totF n (swapL cur p.1 p.2) ts) (totF n cur ts) (pairsTo cur.length i)).2), v3, v4, v5] ∧ Same H H' ∧ Dat H' (bestD (bestTo (fun p => totF n (swapL cur p.1 p.2) ts) (totF n cur ts) (pairsTo cur.length i)).1) bv)
    ⟨.non, none, none, none, rfl, e1, Dat.none⟩ (fun i σ H' hi _ => hi) (fun σ H' _ => Nat.le_refl _) ?_ ?_
  · rintro i y σ H2 H3 hi ⟨bv, v3, v4, v5, rfl, e2, db⟩ ⟨rfl, rfl⟩
    have ei : (0 : Int) + (i : Nat) = i := by omega
    rw [ei]
    refine ⟨_, rfl, _, _, rfl, rfl, _, rfl, x, A.Laid, dx, _, _, rfl, e2 _ _ hx, T.cl_Laid, T.n_Laid_row, laid_row _ _ _, _, _, rfl, .inl (SqL.of (e2 _ _ hra)), _, _, rfl, ⟨by omega, by omega, by omega, by omega⟩, ?_⟩
    rw [hlr]
    have htn : ((cur.length : Int) - ((i : Int) + 1)).toNat = cur.length - (i + 1) := by omega
    rw [htn]
    refine for_in (cur.length - (i + 1)) (fun j σ H' => ∃ bv v4 v5, σ = [some (.ref x), some bv, some (.int (bestTo (fun p => totF n (swapL cur p.1 p.2) ts) (totF n cur ts) (pairsTo cur.length i ++ (List.range j).map fun t => (i, i + 1 + t))).2), some (.int i), v4, v5] ∧ Same H H' ∧ Dat H' (bestD (bestTo (fun p => totF n (swapL cur p.1 p.2) ts) (totF n cur ts) (pairsTo cur.length i ++ (List.range j).map fun t => (i, i + 1 + t))).1) bv)
      ⟨bv, v4, v5, by rw [List.range_zero, List.map_nil, List.append_nil]; rfl, e2, by rw [List.range_zero, List.map_nil, List.append_nil]; exact db⟩ (fun j σ H' hj _ => hj) (fun σ H' _ => Nat.le_refl _) ?_ ?_
    · rintro j y σ H4 H5 hj ⟨bv, v4, v5, rfl, e4, db⟩ ⟨rfl, rfl⟩
      have ej : (i : Int) + 1 + (j : Nat) = ((i + 1 + j : Nat) : Int) := by omega
      rw [ej]
      refine ⟨_, rfl, x, A.Laid, dx, _, _, rfl, e4 _ _ hx, T.cl_Laid, T.n_Laid_web, laid_web _ _ _, _, rfl, x, A.Laid, dx, _, _, rfl, e4 _ _ hx, T.cl_Laid, T.n_Laid_row, laid_row _ _ _, _, rfl, _, rfl, ra, cur, _, _, rfl, e4 _ _ hra, ⟨⟨by omega, by omega⟩, by omega, by omega⟩, by omega, fun p H6 hp e6 hp6 => ?_⟩
      have hsw : (swapL cur i (i + 1 + j)).Perm cur := swapL_perm (by omega) (by omega)
      have ho := ordOk_of_perm hsw hok.ord
      have e46 := e4.trans e6
      refine ⟨.ref wa, p, n, ts, swapL cur i (i + 1 + j), rfl, ⟨dw.mono e46, hp6, hok.win, ordIn_of ho hn8, fun z => ?_, fun _ z => ?_⟩, fun _ _ H7 e7 => ?_⟩
      · rw [hok.web] at z
        cases z
      · rw [ho] at z
        cases z
      have e47 := e46.trans e7
      have hsn : pairsTo cur.length i ++ (List.range (j + 1)).map (fun t => (i, i + 1 + t)) = (pairsTo cur.length i ++ (List.range j).map fun t => (i, i + 1 + t)) ++ [(i, i + 1 + j)] := by
        rw [List.range_succ, List.map_append, List.append_assoc]
        rfl
      refine ⟨_, rfl, _, rfl, _, _, rfl, rfl, _, rfl, ite2 (fun c => ?_) (fun c => ?_)⟩
      · have c' := of_decide_eq_true c
        refine ⟨_, rfl, _, rfl, (by show 2 ≤ sizeLine; decide), fun t ht => ?_⟩
        obtain ⟨s8, n8⟩ := new_pair (o := .tup [V.int (i : Int), V.int ((i + 1 + j : Nat) : Int)]) ht
        refine ⟨_, rfl, .ref t, some (.int ((i + 1 + j : Nat) : Int)), some (.int (totF n (swapL cur i (i + 1 + j)) ts)), ?_, e47.trans s8, ?_⟩
        · rw [hsn, bestTo_snoc]
          unfold bstep
          rw [if_pos c']
          rfl
        · rw [hsn, bestTo_snoc]
          unfold bstep
          rw [if_pos c']
          exact Dat.tuple n8 (.cons .int (.cons .int .nil))
      · have c' := of_decide_eq_false (Bool.eq_false_iff.mpr c)
        refine ⟨bv, some (.int ((i + 1 + j : Nat) : Int)), some (.int (totF n (swapL cur i (i + 1 + j)) ts)), ?_, e47, ?_⟩
        · rw [hsn, bestTo_snoc]
          unfold bstep
          rw [if_neg c']
          rfl
        · rw [hsn, bestTo_snoc]
          unfold bstep
          rw [if_neg c']
          exact db.mono (e6.trans e7)
    · rintro σ H4 ⟨bv, v4, v5, rfl, e4, db⟩
      exact ⟨bv, _, _, _, rfl, e4, db⟩
  · rintro σ H2 ⟨bv, v3, v4, v5, rfl, e2, db⟩
    exact ⟨_, rfl, q bv H2 e2 db⟩
theorem sc_law_cell : FnScope ["_law_script", "_law_k"] ["_law_script", "_law_k"] (defScope s_law_cell) := ⟨rfl, rfl, rfl, by decide +kernel, rfl, by decide +kernel, by decide +kernel⟩
theorem ok_law_cell (T : Txt K mg A D) {k : Nat} : FnOk P w K mg base (CXF P w) (k + 1) A.law_cell D.law_cell ["_law_script", "_law_k"] (spCell K) := by
  refine T.F_law_cell.okF sc_law_cell (fun vs H Q E h => ?_) (fun cdv A' outer s H vs Q E hr h => ?_)
  · obtain ⟨_, _, _, rfl, _⟩ := h
    rfl
  obtain ⟨a, ns, i, rfl, hS, q⟩ := h
  refine ⟨_, (pss_cons (ps_if (pt_truth (pv 0) (fun _ => rfl))
(pss_one (ps_ret (pe_ix ix_list (pv 0) (pe_op op_mod (pv 1) (pe_callB call_len_seq rfl T.z_len PySem.boot_len (pa_cons (pv 0) pa_nil))) (fun _ _ => rfl))))
pss_nil)
(pss_one (ps_ret pe_int))), ?_⟩
  refine ⟨_, rfl, _, .inl ⟨_, hS, rfl⟩, ?_⟩
  cases ns with
  | nil => exact iteF q
  | cons x r =>
    refine iteT ?_
    exact ⟨_, rfl, _, rfl, _, rfl, _, _, rfl, .inl hS, _, _, rfl, rfl, (by rw [List.length_map, List.length_cons]; omega), _, _, _, _, rfl, rfl, hS, cell_at (List.cons_ne_nil x r) i, q⟩
theorem sc_law_mix : FnScope ["_law_script", "_law_k", "_law_number"] ["_law_script", "_law_k"] (defScope s_law_mix) := ⟨rfl, rfl, rfl, by decide +kernel, rfl, by decide +kernel, by decide +kernel⟩
theorem ok_law_mix (T : Txt K mg A D) {k : Nat} (G_law_cell : FnOk P w K mg base (CXF P w) k A.law_cell D.law_cell ["_law_script", "_law_k"] (spCell K)) : FnOk P w K mg base (CXF P w) (k + 1) A.law_mix D.law_mix ["_law_script", "_law_k"] (spMix K) := by
  refine T.F_law_mix.okF sc_law_mix (fun vs H Q E h => ?_) (fun cdv A' outer s H vs Q E hr h => ?_)
  · obtain ⟨_, _, _, rfl, _⟩ := h
    rfl
  obtain ⟨a, ns, i, rfl, hS, q⟩ := h
  refine ⟨_, (pss_cons (ps_set (i := 2) sc_law_mix.nd rfl (Or.inl rfl) (pe_op op_mod (pe_op op_add (pe_call G_law_cell hr rfl T.m_law_cell T.F_law_cell.kp T.b_law_cell .nil pass0F (pa_cons (pv 0) (pa_cons (pv 1) pa_nil))) (pe_op op_mul pe_int (pe_op op_add (pv 1) pe_int))) pe_int))
(pss_cons (ps_set (i := 2) sc_law_mix.nd rfl (Or.inl rfl) (pe_op op_mod (pe_op op_mul (pv 2) pe_int) pe_int))
(pss_one (ps_ret (pe_op op_mod (pe_op op_add (pe_op op_mul (pe_op op_fdiv (pv 2) pe_int) pe_int) (pv 2)) pe_int))))), ?_⟩
  refine ⟨_, rfl, _, rfl, a, ns, i, rfl, hS, _, rfl, _, _, rfl, rfl, _, _, rfl, rfl, .inl ⟨by decide, by decide⟩, _, _, rfl, rfl, _, _, rfl, rfl, (by show (0 : Int) < 4294967291; decide), ?_⟩
  refine ⟨_, rfl, _, _, rfl, rfl, .inr ⟨by decide, by decide⟩, _, _, rfl, rfl, (by show (0 : Int) < 4294967279; decide), ?_⟩
  exact ⟨_, rfl, _, _, rfl, rfl, ⟨by decide, by decide⟩, _, _, rfl, rfl, .inr ⟨by decide, by decide⟩, _, rfl, _, _, rfl, rfl, _, _, rfl, rfl, (by show (0 : Int) < 4294967231; decide), q⟩
theorem sc_law_whole : FnScope ["_law_found"] ["_law_found"] (defScope s_law_whole) := ⟨rfl, rfl, rfl, by decide +kernel, rfl, by decide +kernel, by decide +kernel⟩
theorem ok_law_whole (T : Txt K mg A D) {k : Nat} : FnOk P w K mg base (CXF P w) (k + 1) A.law_whole D.law_whole ["_law_found"] spWhole := by
  refine T.F_law_whole.okF sc_law_whole (fun vs H Q E h => ?_) (fun cdv A' outer s H vs Q E hr h => ?_)
  · obtain ⟨_, rfl, _⟩ := h
    rfl
  obtain ⟨x, rfl, h⟩ := h
  refine ⟨_, (pss_one (ps_ret (pe_and (pe_callB call_isinst rfl T.z_isinstance bt_isinstance (pa_cons (pv 0) (pa_cons (pe_bltn (v := .ty "int") rfl T.z_int bt_int rfl) pa_nil))) (pe_one (pe_not (pe_callB call_isinst rfl T.z_isinstance bt_isinstance (pa_cons (pv 0) (pa_cons (pe_bltn (v := .ty "bool") rfl T.z_bool bt_bool rfl) pa_nil)))))))), ?_⟩
  rcases h with ⟨i, rfl, q⟩ | ⟨a, xs, rfl, ha, q⟩
  · refine ⟨_, rfl, _, _, _, _, _, rfl, rfl, .int i, T.k_int_int, _, rfl, iteT ?_⟩
    exact ⟨_, rfl, _, _, _, _, _, rfl, rfl, .int i, T.k_int_bool, _, rfl, q⟩
  · exact ⟨_, rfl, _, _, _, _, _, rfl, rfl, .tup ha, T.k_tuple_int, _, rfl, iteF q⟩
theorem sc_law_web : FnScope ["_law_script", "_law_k", "_law_places", "_law_many", "_law_dense", "_law_ties", "_law_one", "_law_other", "_law_number"] ["_law_script", "_law_k", "_law_places"] (defScope s_law_web) := ⟨rfl, rfl, rfl, by decide +kernel, rfl, by decide +kernel, by decide +kernel⟩
theorem ok_law_web (T : Txt K mg A D) {k : Nat} (G_law_mix : FnOk P w K mg base (CXF P w) k A.law_mix D.law_mix ["_law_script", "_law_k"] (spMix K)) : FnOk P w K mg base (CXF P w) (k + 1) A.law_web D.law_web ["_law_script", "_law_k", "_law_places"] (spLWeb K) := by
  refine T.F_law_web.okF sc_law_web (fun vs H Q E h => ?_) (fun cdv A' outer s H vs Q E hr h => ?_)
  · obtain ⟨_, _, _, _, rfl, _⟩ := h
    rfl
  obtain ⟨a, ns, k0, m, rfl, hS, hm0, hm8, q⟩ := h
  refine ⟨_, (pss_cons (ps_set (i := 3) sc_law_web.nd rfl (Or.inl rfl) (pe_op op_mod (pe_call G_law_mix hr rfl T.m_law_mix T.F_law_mix.kp T.b_law_mix .nil pass0F (pa_cons (pv 0) (pa_cons (pv 1) pa_nil))) (pe_op op_add (pv 2) pe_int)))
(pss_cons (ps_set (i := 4) sc_law_web.nd rfl (Or.inl rfl) (pe_op op_add pe_int (pe_op op_mod (pe_call G_law_mix hr rfl T.m_law_mix T.F_law_mix.kp T.b_law_mix .nil pass0F (pa_cons (pv 0) (pa_cons (pe_op op_add (pv 1) pe_int) pa_nil))) pe_int)))
(pss_cons (ps_set (i := 5) sc_law_web.nd rfl (Or.inl rfl) (pe_lst pa_nil))
(pss_cons (ps_for passesOwn_cx rfl (pi_range1 rfl T.z_range (pa_cons (pv 3) pa_nil)) (pg_name (i := 6) sc_law_web.nd rfl (Or.inl rfl))
(pss_one (ps_for passesOwn_cx rfl (pi_range2 rfl T.z_range (pa_cons (pe_op op_add (pv 6) pe_int) (pa_cons (pv 3) pa_nil))) (pg_name (i := 7) sc_law_web.nd rfl (Or.inl rfl))
(pss_cons (ps_set (i := 8) sc_law_web.nd rfl (Or.inl rfl) (pe_call G_law_mix hr rfl T.m_law_mix T.F_law_mix.kp T.b_law_mix .nil pass0F (pa_cons (pv 0) (pa_cons (pe_op op_add (pe_op op_add (pe_op op_add (pv 1) pe_int) (pe_op op_mul pe_int (pv 6))) (pv 7)) pa_nil))))
(pss_one (ps_if (pt_cmpR op_lt (pe_op op_mod (pe_op op_fdiv (pv 8) pe_int) pe_int) (pv 4) (nomark _))
(pss_one (ps_expr (pe_bm PySem.F.plainAttrs_list PySem.F.slot_list_append PySem.F.type_list_append mt_append (pv 5) (pa_cons (pe_tup (pa_cons (pv 6) (pa_cons (pv 7) (pa_cons (pe_ix ix_list (pe_lst (pa_cons pe_int (pa_cons pe_int (pa_cons pe_int (pa_cons pe_int (pa_cons pe_int (pa_cons pe_int pa_nil))))))) (pe_op op_mod (pe_op op_fdiv (pv 8) pe_int) pe_int) (fun _ _ => rfl)) pa_nil)))) pa_nil))))
pss_nil))))))
(pss_one (ps_ret (pe_tup (pa_cons (pv 3) (pa_cons (pv 5) pa_nil))))))))), ?_⟩
  refine ⟨_, rfl, _, rfl, a, ns, k0, rfl, hS, _, rfl, _, _, rfl, rfl, _, _, rfl, rfl, (by show 0 < m + 1; omega), ?_⟩
  have hn0 : 0 ≤ mixI ns k0 % (m + 1) := Int.emod_nonneg _ (by omega)
  have hn1 : mixI ns k0 % (m + 1) < m + 1 := Int.emod_lt_of_pos _ (by omega)
  dsimp only
  generalize mixI ns k0 % (m + 1) = n at hn0 hn1 ⊢
  refine ⟨_, rfl, _, rfl, _, _, rfl, rfl, a, ns, _, rfl, hS, _, _, rfl, rfl, (by show (0 : Int) < 4; decide), _, _, rfl, rfl, Nat.zero_le _, fun t ht => ?_⟩
  dsimp only
  generalize 1 + mixI ns (k0 + 1) % 4 = de
  have e0 : Same H (upd H t (.lst [])) := same_new ht
  refine ⟨_, rfl, _, rfl, by omega, by omega, ?_⟩
  refine for_in n.toNat (fun i σ H' => ∃ v6 v7 v8 ts xs, σ = [some (.ref a), some (.int k0), some (.int m), some (.int n), some (.int de), some (.ref t), v6, v7, v8] ∧ Same H H' ∧ H' t = some (.lst xs) ∧ DatL (mask t H') (ts.map tieD) xs ∧ TW n (i : Int) 0 ts ∧ ts.length ≤ 8 * i)
    ⟨none, none, none, [], [], rfl, e0, upd_same, .nil, .nil, Nat.zero_le _⟩ (fun i σ H' hi _ => hi) (fun σ H' _ => Nat.le_refl _) ?_ ?_
  · rintro i x σ H2 H3 hi ⟨v6, v7, v8, ts0, xs0, rfl, e2, hx0, dl0, tw0, hl0⟩ ⟨rfl, rfl⟩
    have ei : (0 : Int) + (i : Nat) = i := by omega
    rw [ei]
    refine ⟨_, rfl, _, _, rfl, rfl, _, rfl, _, _, rfl, ⟨by omega, by omega, by omega, by omega⟩, ?_⟩
    refine for_in (n - ((i : Int) + 1)).toNat (fun j σ H' => ∃ v7 v8 ts xs, σ = [some (.ref a), some (.int k0), some (.int m), some (.int n), some (.int de), some (.ref t), some (.int i), v7, v8] ∧ Same H H' ∧ H' t = some (.lst xs) ∧ DatL (mask t H') (ts.map tieD) xs ∧ TW n (i : Int) ((i : Int) + 1 + j) ts ∧ ts.length ≤ 8 * i + j)
      ⟨v7, v8, ts0, xs0, rfl, e2, hx0, dl0, tw0.later (by omega), by omega⟩ (fun j σ H' hj _ => hj) (fun σ H' _ => Nat.le_refl _) ?_ ?_
    · rintro j x σ H4 H5 hj ⟨v7, v8, ts, xs, rfl, e4, hx, dl, tw, hl⟩ ⟨rfl, rfl⟩
      have hS4 := e4.seq hS
      refine ⟨_, rfl, _, rfl, _, _, rfl, rfl, _, rfl, _, _, rfl, rfl, .inl ⟨by decide, by decide⟩, _, _, rfl, rfl, _, rfl, _, _, rfl, rfl, a, ns, _, rfl, hS4, ?_⟩
      have hx0 := mixI_nonneg ns (k0 + 2 + 8 * (i : Int) + ((i : Int) + 1 + (j : Nat)))
      dsimp only
      generalize mixI ns (k0 + 2 + 8 * (i : Int) + ((i : Int) + 1 + (j : Nat))) = nu at hx0 ⊢
      refine ⟨_, rfl, _, _, rfl, rfl, ⟨by decide, by decide⟩, _, _, rfl, rfl, (by show (0 : Int) < 4; decide), _, rfl, _, _, rfl, rfl, _, rfl, ite2 (fun c => ?_) (fun c => ?_)⟩
      · obtain ⟨wt, hw, hw1, hw2⟩ := weights_at (i := nu / 64 % 6) (Int.emod_nonneg _ (by decide)) (Int.emod_lt_of_pos _ (by decide))
        refine ⟨_, rfl, .inl ⟨rfl, _, SqL.of hx⟩, _, rfl, _, rfl, (by show 6 ≤ sizeLine; decide), fun p hp => ?_⟩
        refine ⟨_, rfl, _, _, rfl, rfl, ⟨by decide, by decide⟩, _, _, rfl, rfl, (by show (0 : Int) < 6; decide), _, _, _, _, rfl, rfl, SqL.of upd_same, hw, (by show 3 ≤ sizeLine; decide), fun r hr2 => ?_⟩
        have s1 := same_new (o := .lst [V.int 1, V.int 1, V.int 2, V.int 3, V.int 7, V.int 100]) hp
        have s2 := same_new (o := .tup [V.int i, V.int ((i : Int) + 1 + (j : Nat)), V.int wt]) hr2
        have s3 := s1.trans s2
        have hlx : xs.length = ts.length := by rw [← dl.length, List.length_map]
        have hrt : r ≠ t := ne_new hr2 (s1 _ _ hx)
        have ht4 : H t = none := ht
        refine ⟨_, _, _, rfl, rfl, s3 _ _ hx, (by rw [hlx, sizeLine_eq]; omega), _, _, ts ++ [[(i : Int), (i : Int) + 1 + (j : Nat), wt]], _, rfl, (e4.trans s3).put ht, upd_same, ?_, ?_, ?_⟩
        · rw [mask_upd, List.map_append]
          refine (dl.mono (mask_mono s3)).append (.cons (Dat.intsT (ns := [(i : Int), (i : Int) + 1 + (j : Nat), wt]) ?_) .nil)
          rw [mask_ne hrt]
          exact upd_same
        · have := tw.add (w := wt) (by omega) (by omega) (by omega) hw1 hw2
          have e : (i : Int) + 1 + ((j + 1 : Nat) : Int) = (i : Int) + 1 + (j : Nat) + 1 := by omega
          rw [e]
          exact this
        · rw [List.length_append]
          show ts.length + 1 ≤ _
          omega
      · exact ⟨_, _, ts, xs, rfl, e4, hx, dl, tw.later (by omega), by omega⟩
    · rintro σ H4 ⟨v7, v8, ts, xs, rfl, e4, hx, dl, tw, hl⟩
      exact ⟨_, _, _, ts, xs, rfl, e4, hx, dl, tw.later (by omega), by omega⟩
  · rintro σ H' ⟨v6, v7, v8, ts, xs, rfl, e2, hx, dl, tw, hl⟩
    refine ⟨_, rfl, _, rfl, (by show 2 ≤ sizeLine; decide), fun p hp => ?_⟩
    have s1 := same_new (o := .tup [V.int n, V.ref t]) hp
    have hw : webOk n ts = true := by
      unfold webOk
      rw [tw.ok, decide_eq_true hn0, decide_eq_true (show n ≤ 8 by omega)]
      rfl
    refine q _ _ n ts (e2.trans s1) (web_mk upd_same (s1 _ _ hx) (dl.mono (mask_same.trans s1))) hw (webIn_of hw (by omega)) (by omega) (by omega)
theorem sc_law_order : FnScope ["_law_script", "_law_k", "_law_many", "_law_left", "_law_found"] ["_law_script", "_law_k", "_law_many"] (defScope s_law_order) := ⟨rfl, rfl, rfl, by decide +kernel, rfl, by decide +kernel, by decide +kernel⟩
theorem ok_law_order (T : Txt K mg A D) {k : Nat} (G_law_mix : FnOk P w K mg base (CXF P w) k A.law_mix D.law_mix ["_law_script", "_law_k"] (spMix K)) : FnOk P w K mg base (CXF P w) (k + 1) A.law_order D.law_order ["_law_script", "_law_k", "_law_many"] (spLOrd K) := by
  refine T.F_law_order.okF sc_law_order (fun vs H Q E h => ?_) (fun cdv A' outer s H vs Q E hr h => ?_)
  · obtain ⟨_, _, _, _, rfl, _⟩ := h
    rfl
  obtain ⟨a, ns, k0, m, rfl, hS, hm0, hm8, q⟩ := h
  obtain ⟨N, rfl⟩ : ∃ N : Nat, m = N := ⟨m.toNat, by omega⟩
  refine ⟨_, (pss_cons (ps_set (i := 3) sc_law_order.nd rfl (Or.inl rfl) (pe_callTy (call_list_rng rfl) rfl T.z_list bt_list (pa_cons (pe_range1 rfl T.z_range (pa_cons (pv 2) pa_nil)) pa_nil)))
(pss_cons (ps_set (i := 4) sc_law_order.nd rfl (Or.inl rfl) (pe_lst pa_nil))
(pss_cons (ps_while passesOwn_cx (pt_truth (pv 3) (fun _ => rfl))
(pss_one (ps_expr (pe_bm PySem.F.plainAttrs_list PySem.F.slot_list_append PySem.F.type_list_append mt_append (pv 4) (pa_cons (pe_bm PySem.F.plainAttrs_list PySem.F.slot_list_pop PySem.F.type_list_pop mt_popAt (pv 3) (pa_cons (pe_op op_mod (pe_call G_law_mix hr rfl T.m_law_mix T.F_law_mix.kp T.b_law_mix .nil pass0F (pa_cons (pv 0) (pa_cons (pe_op op_add (pv 1) (pe_callB call_len_seq rfl T.z_len PySem.boot_len (pa_cons (pv 4) pa_nil))) pa_nil))) (pe_callB call_len_seq rfl T.z_len PySem.boot_len (pa_cons (pv 3) pa_nil))) pa_nil)) pa_nil)))))
(pss_one (ps_ret (pv 4)))))), ?_⟩
  refine ⟨_, rfl, N, rfl, fun r hr2 => ⟨r, N, rfl, upd_same, by omega, fun l hl => ?_⟩⟩
  refine ⟨Nat.zero_le _, fun f hf => ?_⟩
  have e1 := same_new (o := .rng 0 (N : Int)) hr2
  have e2 := same_new (o := .lst ((List.range N).map fun i : Nat => V.int (i : Int))) hl
  have e3 := same_new (o := .lst []) hf
  have hlf : l ≠ f := ne_of_none upd_same hf
  have e0 := (e1.trans e2).trans e3
  refine ⟨fun mm σ H' => ∃ (lf fd : List Int), σ = [some (.ref a), some (.int k0), some (.int N), some (.ref l), some (.ref f)] ∧ Same H H' ∧ H' l = some (.lst (lf.map .int)) ∧ H' f = some (.lst (fd.map .int)) ∧ (fd ++ lf).Perm (upto N) ∧ mm = lf.length,
    ⟨_, upto N, [], rfl, e0, ?_, upd_same, List.Perm.refl _, rfl⟩, ?_⟩
  · rw [upd_ne hlf, upd_same]
    unfold upto
    rw [List.map_map]
    rfl
  rintro mm σ H' ⟨lf, fd, rfl, e, hl', hf', hp, rfl⟩
  refine ⟨_, rfl, _, .inl ⟨_, SqL.of hl', rfl⟩, ?_⟩
  have hlen := hp.length_eq
  rw [List.length_append, upto_len] at hlen
  cases lf with
  | nil =>
    refine iteF ⟨_, rfl, ?_⟩
    rw [List.append_nil] at hp
    have ho := ordOk_perm hp
    exact q f H' fd ((e1.trans e2).free hf) e hf' ho (ordIn_of ho hm8)
  | cons y r =>
    refine iteT ⟨_, fun _ _ h => h, ?_⟩
    have hi0 : 0 ≤ mixI ns (k0 + ((fd.map V.int).length : Nat)) % (((y :: r).map V.int).length : Int) := Int.emod_nonneg _ (by rw [List.length_map, List.length_cons]; omega)
    have hi1 : mixI ns (k0 + ((fd.map V.int).length : Nat)) % (((y :: r).map V.int).length : Int) < (((y :: r).map V.int).length : Int) := Int.emod_lt_of_pos _ (by rw [List.length_map, List.length_cons]; omega)
    refine ⟨_, rfl, .inl ⟨rfl, _, SqL.of hf'⟩, _, rfl, .inl ⟨rfl, _, SqL.of hl'⟩, _, rfl, _, rfl, _, rfl, _, _, rfl, .inl (SqL.of hf'), _, _, rfl, rfl, a, ns, _, rfl, e.seq hS, _, rfl, _, _, rfl, .inl (SqL.of hl'), _, _, rfl, rfl, (by show (0 : Int) < (((y :: r).map V.int).length : Nat); rw [List.length_map, List.length_cons]; omega), ?_⟩
    dsimp only
    generalize mixI ns (k0 + ((fd.map V.int).length : Nat)) % (((y :: r).map V.int).length : Int) = i at hi0 hi1 ⊢
    have hi2 : i.toNat < (y :: r).length := by rw [List.length_map] at hi1; omega
    have hl8 : (y :: r).length ≤ 8 := by omega
    refine ⟨l, _, i, i.toNat, .int ((y :: r)[i.toNat]), rfl, rfl, hl', by omega, ?_, seq_nat hi0 hi1, ?_, f, fd.map V.int, _, rfl, rfl, ?_, ?_, ?_⟩
    · rw [List.length_map] at hi1
      have : (2 : Int) ^ 63 = 9223372036854775808 := by decide
      omega
    · rw [List.getElem?_map, List.getElem?_eq_getElem hi2]
      rfl
    · rw [upd_ne (Ne.symm hlf)]
      exact hf'
    · rw [List.length_map, sizeLine_eq]
      omega
    · refine ⟨((y :: r).eraseIdx i.toNat).length, ?_, (y :: r).eraseIdx i.toNat, fd ++ [(y :: r)[i.toNat]], rfl, ?_, ?_, ?_, ?_, rfl⟩
      · rw [List.length_eraseIdx_of_lt hi2]
        rw [List.length_cons]
        omega
      · exact (e.put (e1.free hl)).put ((e1.trans e2).free hf)
      · rw [upd_ne hlf, upd_same, map_erase]
      · rw [upd_same, List.map_append]
        rfl
      · rw [List.append_assoc]
        exact (List.Perm.append_left fd (perm_erase hi2)).trans hp
theorem sc_law_lengths : FnScope ["_law_web_here", "_law_order_here"] ["_law_web_here", "_law_order_here"] (defScope s_law_lengths) := ⟨rfl, rfl, rfl, by decide +kernel, rfl, by decide +kernel, by decide +kernel⟩
theorem nd_law_lengths_1 : List.Nodup (["_law_order_here", "_law_one", "_law_other", "_law_weight"] : List Str) := by decide +kernel
theorem ok_law_lengths (T : Txt K mg A D) {k : Nat} : FnOk P w K mg base (CXF P w) (k + 1) A.law_lengths D.law_lengths ["_law_web_here", "_law_order_here"] spLLens := by
  refine T.F_law_lengths.okF sc_law_lengths (fun vs H Q E h => ?_) (fun cdv A' outer s H vs Q E hr h => ?_)
  · obtain ⟨_, _, _, _, _, rfl, _⟩ := h
    rfl
  obtain ⟨v, l, n, ts, os, rfl, dv, hl0, hw, hin, ho, q⟩ := h
  obtain ⟨hol, hok, hon⟩ := ordOk_of ho
  obtain ⟨hn0, hn8, htt⟩ := webOk_of hw
  obtain ⟨a, tl, xs, rfl, ha, hl, dl⟩ := web_of dv
  have hlen : xs.length = ts.length := by rw [← dl.length, List.length_map]
  refine ⟨_, (pss_one (ps_ret (pe_lc rfl (cn_of (N := ["_law_order_here", "_law_one", "_law_other", "_law_weight"]) (js := [some 1, none, none, none]) rfl rfl (by decide +kernel) (by decide +kernel) rfl (List.forall_mem_cons.mpr ⟨rfl, fun _ h => nomatch h⟩) (List.forall_mem_cons.mpr ⟨(fun h => nomatch h), (List.forall_mem_cons.mpr ⟨(fun h => nomatch h), (List.forall_mem_cons.mpr ⟨(fun h => nomatch h), (List.forall_mem_cons.mpr ⟨(fun h => nomatch h), (List.forall_mem_cons.mpr ⟨(fun h => nomatch h), (List.forall_mem_cons.mpr ⟨(fun _ => rfl), fun _ h => nomatch h⟩)⟩)⟩)⟩)⟩)⟩) (List.forall_mem_cons.mpr ⟨(fun j h => (by cases h; exact ⟨rfl, rfl, rfl⟩)), (List.forall_mem_cons.mpr ⟨(fun j h => nomatch h), (List.forall_mem_cons.mpr ⟨(fun j h => nomatch h), (List.forall_mem_cons.mpr ⟨(fun j h => nomatch h), fun _ h => nomatch h⟩)⟩)⟩)⟩) rfl) (pi_list (pe_ix ix_tup (pv 0) pe_int (fun _ _ => rfl))) (fun _ _ _ _ => (pg_tupK (K := K) (n := 3) rfl rfl (pgs_cons (pg_name (i := 1) nd_law_lengths_1 rfl (Or.inl rfl) (hf := Or.inr rfl)) (pgs_cons (pg_name (i := 2) nd_law_lengths_1 rfl (Or.inl rfl) (hf := Or.inr rfl)) (pgs_cons (pg_name (i := 3) nd_law_lengths_1 rfl (Or.inl rfl) (hf := Or.inr rfl)) pgs_nil))) rfl rfl)) (fun _ _ _ _ => pts_nil) (fun _ _ _ _ => (pe_callB call_abs rfl T.z_abs bt_abs (pa_cons (pe_op op_sub (pe_bmK (K := K) rfl PySem.F.plainAttrs_list PySem.F.slot_list_index PySem.F.type_list_index (mt_indexK (K := K) rfl) (pv 0) (pa_cons (pv 1) pa_nil) rfl rfl rfl rfl rfl) (pe_bmK (K := K) rfl PySem.F.plainAttrs_list PySem.F.slot_list_index PySem.F.type_list_index (mt_indexK (K := K) rfl) (pv 0) (pa_cons (pv 2) pa_nil) rfl rfl rfl rfl rfl)) pa_nil)))))), ?_⟩
  refine ⟨_, rfl, _, _, _, _, rfl, rfl, SqT.of ha, rfl, tl, rfl, ⟨xs, SqL.of hl⟩, ?_⟩
  refine lc_in (fun σ => ∃ x y z, σ = [some (.ref l), x, y, z]) ts.length (fun i => .int (tieLen os (ts.getD i []))) ⟨none, none, none, rfl⟩ ?_ ?_ ?_ ?_ ?_
  · intro i H3 hi e3
    have hx : i < xs.length := by omega
    exact ⟨xs, xs[i], SqL.of (e3 _ _ hl), List.getElem?_eq_getElem hx⟩
  · intro H3 e3
    exact ⟨xs, SqL.of (e3 _ _ hl), by omega⟩
  · have := hin.len
    rw [sizeLine_eq]
    omega
  · rintro Dd i x σ2 H3 H4 N hi e3 hD ⟨x1, y1, z1, rfl⟩ ⟨rfl, hx⟩ fin
    obtain ⟨t, htt2⟩ : ∃ t, ts[i]? = some t := ⟨ts[i], List.getElem?_eq_getElem hi⟩
    obtain ⟨ta, hxa, hta⟩ := tie_at (dl.mono e3) htt2
    have hx2 := hx xs (SqL.of (e3 _ _ hl))
    rw [hxa] at hx2
    cases hx2
    have htd : ts.getD i [] = t := by rw [List.getD_eq_getElem?_getD, htt2]; rfl
    obtain ⟨pa, pb, pc, rfl, h1, h2, h3, h4, h5, h6⟩ := htt t (List.mem_of_getElem? htt2)
    have ma := ord_all ho h3 (by omega)
    have mb := ord_all ho h1 h2
    have hl3 := e3 _ _ hl0
    refine ⟨ta, _, rfl, SqT.of hta, rfl, _, _, rfl, _, _, rfl, _, _, rfl, rfl, ?_⟩
    refine ⟨_, rfl, .inl ⟨rfl, _, SqL.of hl3⟩, _, rfl, _, _, _, _, rfl, rfl, SqL.of hl3, flat_ints os, rfl, index_of ma, _, rfl, .inl ⟨rfl, _, SqL.of hl3⟩, _, rfl, _, _, _, _, rfl, rfl, SqL.of hl3, flat_ints os, rfl, index_of mb, _, _, rfl, rfl, _, rfl, ?_⟩
    refine fin _ _ _ ⟨_, _, _, rfl⟩ (Same.refl _) ?_
    rw [htd]
    exact .int
  · intro Dd ys H3 hD e3 hy dy
    have z : (List.range ts.length).map (fun i => PyData.int (tieLen os (ts.getD i []))) = (lens os ts).map .int := by
      rw [map_range_get (fun t => PyData.int (tieLen os t)) [] ts]
      unfold lens
      rw [List.map_map]
      rfl
    rw [z] at dy
    rw [dy.ints_of] at hy
    exact q Dd H3 hD e3 hy
theorem sc_law_gaps : FnScope ["_law_web_here", "_law_order_here", "_law_found", "_law_gap", "_law_over", "_law_one", "_law_other", "_law_weight", "_law_spots"] ["_law_web_here", "_law_order_here"] (defScope s_law_gaps) := ⟨rfl, rfl, rfl, by decide +kernel, rfl, by decide +kernel, by decide +kernel⟩
theorem ok_law_gaps (T : Txt K mg A D) {k : Nat} : FnOk P w K mg base (CXF P w) (k + 1) A.law_gaps D.law_gaps ["_law_web_here", "_law_order_here"] spLGaps := by
  refine T.F_law_gaps.okF sc_law_gaps (fun vs H Q E h => ?_) (fun cdv A' outer s H vs Q E hr h => ?_)
  · obtain ⟨_, _, _, _, _, rfl, _⟩ := h
    rfl
  obtain ⟨v, l, n, ts, os, rfl, dv, hl0, hw, hin, ho, q⟩ := h
  obtain ⟨hol, hok, hon⟩ := ordOk_of ho
  obtain ⟨hn0, hn8, htt⟩ := webOk_of hw
  obtain ⟨a, tl, xs, rfl, ha, hl, dl⟩ := web_of dv
  have hlen : xs.length = ts.length := by rw [← dl.length, List.length_map]
  refine ⟨_, (pss_cons (ps_set (i := 2) sc_law_gaps.nd rfl (Or.inl rfl) (pe_lst pa_nil))
(pss_cons (ps_for passesOwn_cx rfl (pi_range1 rfl T.z_range (pa_cons (pe_op op_sub (pe_callB call_len_seq rfl T.z_len PySem.boot_len (pa_cons (pv 1) pa_nil)) pe_int) pa_nil)) (pg_name (i := 3) sc_law_gaps.nd rfl (Or.inl rfl))
(pss_cons (ps_set (i := 4) sc_law_gaps.nd rfl (Or.inl rfl) pe_int)
(pss_cons (ps_for passesOwn_cx rfl (pi_list (pe_ix ix_tup (pv 0) pe_int (fun _ _ => rfl))) (pg_tup rfl (pgs_cons (pg_name (i := 5) sc_law_gaps.nd rfl (Or.inl rfl)) (pgs_cons (pg_name (i := 6) sc_law_gaps.nd rfl (Or.inl rfl)) (pgs_cons (pg_name (i := 7) sc_law_gaps.nd rfl (Or.inl rfl)) pgs_nil))))
(pss_cons (ps_set (i := 8) sc_law_gaps.nd rfl (Or.inl rfl) (pe_callB call_sorted rfl T.z_sorted bt_sorted (pa_cons (pe_lst (pa_cons (pe_bm PySem.F.plainAttrs_list PySem.F.slot_list_index PySem.F.type_list_index mt_index (pv 1) (pa_cons (pv 5) pa_nil)) (pa_cons (pe_bm PySem.F.plainAttrs_list PySem.F.slot_list_index PySem.F.type_list_index mt_index (pv 1) (pa_cons (pv 6) pa_nil)) pa_nil))) pa_nil)))
(pss_one (ps_set (i := 4) sc_law_gaps.nd rfl (Or.inl rfl) (pe_op op_add (pv 4) (pe_op op_mul (pv 7) (pe_callTy call_int1 rfl T.z_int bt_int (pa_cons (pe_chain op_le op_lt (pe_ix ix_list (pv 8) pe_int (fun _ _ => rfl)) (pv 3) (pe_ix ix_list (pv 8) pe_int (fun _ _ => rfl))) pa_nil))))))))
(pss_one (ps_expr (pe_bm PySem.F.plainAttrs_list PySem.F.slot_list_append PySem.F.type_list_append mt_append (pv 2) (pa_cons (pv 4) pa_nil)))))))
(pss_one (ps_ret (pv 2))))), ?_⟩
  refine ⟨Nat.zero_le _, fun f hf => ?_⟩
  have e0 : Same H (upd H f (.lst [])) := same_new hf
  refine ⟨_, rfl, _, _, rfl, .inl (SqL.of (e0 _ _ hl0)), _, _, rfl, rfl, _, rfl, (by rw [List.length_map, hol]; omega), (by rw [List.length_map, hol]; omega), ?_⟩
  have hj : ((os.map V.int).length : Int) - 1 = n - 1 := by rw [List.length_map, hol]
  rw [hj]
  refine for_in (n - 1).toNat (fun i σ H' => ∃ v3 v4 v5 v6 v7 v8, σ = [some (.ref a), some (.ref l), some (.ref f), v3, v4, v5, v6, v7, v8] ∧ Same H H' ∧ H' f = some (.lst (((List.range i).map (gapAt os ts)).map .int)))
    ⟨none, none, none, none, none, none, rfl, e0, upd_same⟩ (fun i σ H' hi _ => hi) (fun σ H' _ => Nat.le_refl _) ?_ ?_
  · rintro i x σ H2 H3 hi ⟨v3, v4, v5, v6, v7, v8, rfl, e2, hg⟩ ⟨rfl, rfl⟩
    have ei : (0 : Int) + (i : Nat) = i := by omega
    rw [ei]
    refine ⟨_, rfl, _, _, _, _, rfl, rfl, SqT.of (e2 _ _ ha), rfl, tl, rfl, ⟨xs, SqL.of (e2 _ _ hl)⟩, ?_⟩
    refine for_in ts.length (fun j σ H' => ∃ v5 v6 v7 v8, σ = [some (.ref a), some (.ref l), some (.ref f), some (.int i), some (.int (gapAt os (ts.take j) i)), v5, v6, v7, v8] ∧ Same H H' ∧ H' f = some (.lst (((List.range i).map (gapAt os ts)).map .int)))
      ⟨v5, v6, v7, v8, rfl, e2, hg⟩ ?_ ?_ ?_ ?_
    · rintro j σ H' hj ⟨v5, v6, v7, v8, rfl, e, hg'⟩
      have hx : j < xs.length := by omega
      exact ⟨xs, xs[j], SqL.of (e _ _ hl), List.getElem?_eq_getElem hx⟩
    · rintro σ H' ⟨v5, v6, v7, v8, rfl, e, hg'⟩
      exact ⟨xs, SqL.of (e _ _ hl), by omega⟩
    · rintro j x σ H4 H5 hj ⟨v5, v6, v7, v8, rfl, e, hg'⟩ ⟨rfl, hx⟩
      obtain ⟨t, htt2⟩ : ∃ t, ts[j]? = some t := ⟨ts[j], List.getElem?_eq_getElem hj⟩
      obtain ⟨ta, hxa, hta⟩ := tie_at (dl.mono e) htt2
      have hx2 := hx xs (SqL.of (e _ _ hl))
      rw [hxa] at hx2
      cases hx2
      have htk : ts.take (j + 1) = ts.take j ++ [t] := by rw [List.take_succ, htt2]; rfl
      obtain ⟨pa, pb, pc, rfl, h1, h2, h3, h4, h5, h6⟩ := htt t (List.mem_of_getElem? htt2)
      have ma := ord_all ho h3 (by omega)
      have mb := ord_all ho h1 h2
      have hl4 := e _ _ hl0
      refine ⟨ta, _, rfl, SqT.of hta, rfl, _, _, rfl, _, _, rfl, _, _, rfl, rfl, ?_⟩
      refine ⟨_, rfl, .inl ⟨rfl, _, SqL.of hl4⟩, _, rfl, _, _, _, _, rfl, rfl, SqL.of hl4, flat_ints os, rfl, index_of ma, _, rfl, .inl ⟨rfl, _, SqL.of hl4⟩, _, rfl, _, _, _, _, rfl, rfl, SqL.of hl4, flat_ints os, rfl, index_of mb, (by show 2 ≤ sizeLine; decide), fun p hp => ?_⟩
      refine ⟨p, [((idx os pa : Nat) : Int), ((idx os pb : Nat) : Int)], rfl, SqL.of upd_same, (by show 2 < 64; decide), fun sl ms hsl hp2 hs => ?_⟩
      have hms := sorted2 hp2 hs
      subst hms
      have s1 := same_new (o := .lst [V.int ((idx os pa : Nat) : Int), V.int ((idx os pb : Nat) : Int)]) hp
      have s2 := same_new (o := .lst ([((min (idx os pa) (idx os pb) : Nat) : Int), ((max (idx os pa) (idx os pb) : Nat) : Int)].map V.int)) hsl
      have e5 := (e.trans s1).trans s2
      have hg5 := s2 _ _ (s1 _ _ hg')
      have key1 : (min (idx os pa) (idx os pb) ≤ i ∧ i < max (idx os pa) (idx os pb)) → gapAt os (ts.take (j + 1)) i = gapAt os (ts.take j) i + pc * 1 := fun c => by
        rw [htk, gapAt_snoc, Int.mul_one]
        congr 1
        exact if_pos c
      have key0 : ¬ (min (idx os pa) (idx os pb) ≤ i ∧ i < max (idx os pa) (idx os pb)) → gapAt os (ts.take (j + 1)) i = gapAt os (ts.take j) i + pc * 0 := fun c => by
        rw [htk, gapAt_snoc, Int.mul_zero]
        congr 1
        exact if_neg c
      refine ⟨_, rfl, _, rfl, _, rfl, _, _, _, _, rfl, rfl, SqL.of upd_same, rfl, _, rfl, _, _, rfl, rfl, _, rfl, ite2 (fun c => ?_) (fun c => ?_)⟩
      · have c1 : ((min (idx os pa) (idx os pb) : Nat) : Int) ≤ i := of_decide_eq_true c
        refine ⟨_, rfl, _, _, _, _, rfl, rfl, SqL.of upd_same, rfl, _, _, rfl, rfl, .inr ⟨_, rfl, _, _, rfl, rfl, .inl ⟨by omega, by omega⟩, _, _, rfl, rfl, ?_⟩⟩
        refine ⟨some (.int pa), some (.int pb), some (.int pc), some (.ref sl), ?_, e5, hg5⟩
        dsimp only
        by_cases c2 : i < max (idx os pa) (idx os pb)
        · have c3 : decide ((i : Int) < ((max (idx os pa) (idx os pb) : Nat) : Int)) = true := decide_eq_true (by omega)
          rw [c3, key1 ⟨by omega, c2⟩]
          rfl
        · have c3 : decide ((i : Int) < ((max (idx os pa) (idx os pb) : Nat) : Int)) = false := decide_eq_false (by omega)
          rw [c3, key0 (fun z => c2 z.2)]
          rfl
      · have c1 : ¬ ((min (idx os pa) (idx os pb) : Nat) : Int) ≤ i := of_decide_eq_false (Bool.eq_false_iff.mpr c)
        refine .inr ⟨_, rfl, _, _, rfl, rfl, .inl ⟨by omega, by omega⟩, _, _, rfl, rfl, ?_⟩
        refine ⟨some (.int pa), some (.int pb), some (.int pc), some (.ref sl), ?_, e5, hg5⟩
        dsimp only
        rw [key0 (fun z => c1 (by have := z.1; omega))]
        rfl
    · rintro σ H4 ⟨v5, v6, v7, v8, rfl, e, hg'⟩
      rw [List.take_length]
      have hfl : (((List.range i).map (gapAt os ts)).map V.int).length < sizeLine := by
        rw [List.length_map, List.length_map, List.length_range, sizeLine_eq]
        omega
      refine ⟨_, rfl, .inl ⟨rfl, _, SqL.of hg'⟩, _, rfl, _, _, _, rfl, rfl, hg', hfl, _, _, _, _, _, _, rfl, e.put hf, ?_⟩
      rw [upd_same, List.range_succ, List.map_append, List.map_append]
      rfl
  · rintro σ H' ⟨v3, v4, v5, v6, v7, v8, rfl, e, hg⟩
    exact ⟨_, rfl, q f H' hf e hg⟩
theorem sc_law_measured : FnScope ["_law_web_here", "_law_kind", "_law_order_here", "_law_gaps_here"] ["_law_web_here", "_law_kind", "_law_order_here"] (defScope s_law_measured) := ⟨rfl, rfl, rfl, by decide +kernel, rfl, by decide +kernel, by decide +kernel⟩
theorem ok_law_measured (T : Txt K mg A D) {k : Nat} (G_law_lengths : FnOk P w K mg base (CXF P w) k A.law_lengths D.law_lengths ["_law_web_here", "_law_order_here"] spLLens) (G_law_gaps : FnOk P w K mg base (CXF P w) k A.law_gaps D.law_gaps ["_law_web_here", "_law_order_here"] spLGaps) :
    FnOk P w K mg base (CXF P w) (k + 1) A.law_measured D.law_measured ["_law_web_here", "_law_kind", "_law_order_here"] spLMeas := by
  refine T.F_law_measured.okF sc_law_measured (fun vs H Q E h => ?_) (fun cdv A' outer s H vs Q E hr h => ?_)
  · obtain ⟨_, _, _, _, _, _, rfl, _⟩ := h
    rfl
  obtain ⟨v, kd, l, n, ts, os, rfl, dv, hl, hw, win, hl64, ho, q1, q2, q3⟩ := h
  obtain ⟨hn0, hn8, _⟩ := webOk_of hw
  have htk : ∀ t ∈ ts, tieOk n t = true := by
    unfold webOk at hw
    rw [Bool.and_eq_true] at hw
    exact tiesOk_all hw.2
  refine ⟨_, (pss_cons (ps_if (pt_cmpR op_eq (pv 1) pe_str (nomark _))
(pss_one (ps_ret (pe_callB (call_maxL rfl) rfl T.z_max bt_max (pa_cons (pe_op op_cat (pe_lst (pa_cons pe_int pa_nil)) (pe_call G_law_lengths hr rfl T.m_law_lengths T.F_law_lengths.kp T.b_law_lengths .nil pass0F (pa_cons (pv 0) (pa_cons (pv 2) pa_nil)))) pa_nil))))
pss_nil)
(pss_cons (ps_set (i := 3) sc_law_measured.nd rfl (Or.inl rfl) (pe_call G_law_gaps hr rfl T.m_law_gaps T.F_law_gaps.kp T.b_law_gaps .nil pass0F (pa_cons (pv 0) (pa_cons (pv 2) pa_nil))))
(pss_one (ps_ret (pe_ifExp (pt_cmpR op_eq (pv 1) pe_str (nomark _)) (pe_callB (call_maxL rfl) rfl T.z_max bt_max (pa_cons (pe_op op_cat (pe_lst (pa_cons pe_int pa_nil)) (pv 3)) pa_nil)) (pe_callB (call_sum rfl) rfl T.z_sum bt_sum (pa_cons (pv 3) pa_nil))))))), ?_⟩
  refine ⟨_, rfl, rfl, _, rfl, ite_str (fun c => ?_) fun c1 => ?_⟩
  · refine ⟨(by show 1 ≤ sizeLine; decide), fun p1 hp1 => ?_⟩
    obtain ⟨s1, n1⟩ := new_pair (o := .lst [V.int 0]) hp1
    refine ⟨_, rfl, _, rfl, v, l, n, ts, os, rfl, dv.mono s1, s1 _ _ hl, hw, win, ho, fun p2 H2 hp2 e2 h2 => ?_⟩
    have hfl : ((lens os ts).map V.int).length ≤ 64 := by rw [List.length_map, lens_len]; exact hl64
    refine ⟨_, _, _, _, rfl, rfl, e2 _ _ n1, h2, (by rw [sizeLine_eq]; show 1 + _ ≤ _; omega), fun p3 hp3 => ?_⟩
    obtain ⟨s3, n3⟩ := new_pair (o := .lst ([V.int 0] ++ (lens os ts).map V.int)) hp3
    refine ⟨p3, [0] ++ lens os ts, rfl, SqL.of (n3.trans (by rw [List.map_append]; rfl)), (by simp), fun M hM => ?_⟩
    rw [isMax_zero lens_nonneg hM]
    exact q1 c _ ((s1.trans e2).trans s3)
  · refine ⟨_, rfl, _, rfl, v, l, n, ts, os, rfl, dv, hl, hw, win, ho, fun p2 H2 hp2 e2 h2 => ?_⟩
    have hgl : ((gapsL (n - 1).toNat os ts).map V.int).length ≤ 64 := by
      unfold gapsL
      rw [List.length_map, List.length_map, List.length_range]
      omega
    refine ⟨_, rfl, rfl, _, rfl, ite_str (fun c => ?_) fun c2 => ?_⟩
    · refine ⟨(by show 1 ≤ sizeLine; decide), fun p1 hp1 => ?_⟩
      obtain ⟨s1, n1⟩ := new_pair (o := .lst [V.int 0]) hp1
      refine ⟨_, rfl, _, _, _, _, rfl, rfl, n1, s1 _ _ h2, (by rw [sizeLine_eq]; show 1 + _ ≤ _; omega), fun p3 hp3 => ?_⟩
      obtain ⟨s3, n3⟩ := new_pair (o := .lst ([V.int 0] ++ (gapsL (n - 1).toNat os ts).map V.int)) hp3
      refine ⟨p3, [0] ++ gapsL (n - 1).toNat os ts, rfl, SqL.of (n3.trans (by rw [List.map_append]; rfl)), (by simp), fun M hM => ?_⟩
      rw [isMax_zero (gaps_nonneg htk) hM]
      exact q2 c _ ((e2.trans s1).trans s3)
    · refine ⟨_, rfl, p2, _, rfl, SqL.of h2, ?_⟩
      rw [gaps_sum ho htk]
      exact q3 c1 c2 _ e2
theorem sc_law_refusal : FnScope ["_law_kept", "_law_kinds"] ["_law_kept"] (defScope s_law_refusal) := ⟨rfl, rfl, rfl, by decide +kernel, rfl, by decide +kernel, by decide +kernel⟩
theorem ok_law_refusal (T : Txt K mg A D) {k : Nat} : FnOk P w K mg base (CXF P w) (k + 1) A.law_refusal D.law_refusal ["_law_kept"] (spRef A.er) := by
  refine T.F_law_refusal.okF sc_law_refusal (fun vs H Q E h => ?_) (fun cdv A' outer s H vs Q E hr h => ?_)
  · obtain ⟨_, rfl, _⟩ := h
    rfl
  obtain ⟨x, rfl, h⟩ := h
  refine ⟨_, (pss_cons (ps_if (pt_cmp (pc_isN (pv 0)))
(pss_one (ps_ret pe_str))
pss_nil)
(pss_cons (ps_set (i := 1) sc_law_refusal.nd rfl (Or.inl rfl) (pe_lst (pa_cons (pe_callB call_isinstX rfl T.z_isinstance bt_isinstance (pa_cons (pv 0) (pa_cons (pe_glob (v := .ref A.BadKind) rfl T.m_BadKind rfl) pa_nil))) (pa_cons (pe_callB call_isinstX rfl T.z_isinstance bt_isinstance (pa_cons (pv 0) (pa_cons (pe_glob (v := .ref A.BadOrder) rfl T.m_BadOrder rfl) pa_nil))) (pa_cons (pe_callB call_isinstX rfl T.z_isinstance bt_isinstance (pa_cons (pv 0) (pa_cons (pe_glob (v := .ref A.BadSpot) rfl T.m_BadSpot rfl) pa_nil))) pa_nil)))))
(pss_cons (ps_set (i := 1) sc_law_refusal.nd rfl (Or.inl rfl) (pe_op op_cat (pv 1) (pe_lst (pa_cons (pe_callB call_isinstX rfl T.z_isinstance bt_isinstance (pa_cons (pv 0) (pa_cons (pe_glob (v := .ref A.BadText) rfl T.m_BadText rfl) pa_nil))) (pa_cons (pe_callB call_isinstX rfl T.z_isinstance bt_isinstance (pa_cons (pv 0) (pa_cons (pe_glob (v := .ref A.BadWeb) rfl T.m_BadWeb rfl) pa_nil))) pa_nil)))))
(pss_cons (ps_if (PW.pt (pw_or (pt_cmpR op_ne (pe_bm PySem.F.plainAttrs_list PySem.F.slot_list_count PySem.F.type_list_count mt_count (pv 1) (pa_cons pe_bl pa_nil)) pe_int (nomark _)) (pw_or1 (pt_not (pt_val (pe_callB call_isinstX rfl T.z_isinstance bt_isinstance (pa_cons (pv 0) (pa_cons (pe_bltn (v := .ty "ValueError") rfl T.z_ValueError bt_ValueError rfl) pa_nil))))))))
(pss_one (ps_ret pe_str))
pss_nil)
(pss_one (ps_ret (pe_ix ix_list (pe_lst (pa_cons pe_str (pa_cons pe_str (pa_cons pe_str (pa_cons pe_str (pa_cons pe_str pa_nil)))))) (pe_bm PySem.F.plainAttrs_list PySem.F.slot_list_index PySem.F.type_list_index mt_index (pv 1) (pa_cons pe_bl pa_nil)) (fun _ _ => rfl)))))))), ?_⟩
  rcases h with ⟨rfl, q⟩ | ⟨a, C, y, rfl, ha, hw, q⟩
  · exact ⟨_, rfl, _, rfl, iteDT rfl q⟩
  refine ⟨_, rfl, _, rfl, iteDF (fun z => nomatch z) ?_⟩
  obtain ⟨_, _, L, hV⟩ := ref_facts T hw
  obtain ⟨bK, bO, bS, bT, bW, j, h1, h2, h3, h4, h5, h6, h7, h8⟩ : ∃ (bK bO bS bT bW : Bool) (j : Nat), PySem.W.kitOne K (.ref C) (.ref A.BadKind) = some bK ∧ PySem.W.kitOne K (.ref C) (.ref A.BadOrder) = some bO ∧ PySem.W.kitOne K (.ref C) (.ref A.BadSpot) = some bS ∧ PySem.W.kitOne K (.ref C) (.ref A.BadText) = some bT ∧ PySem.W.kitOne K (.ref C) (.ref A.BadWeb) = some bW ∧
      V.int (([V.bl bK, V.bl bO, V.bl bS, V.bl bT, V.bl bW].countP fun z => eqV z (.bl true) : Nat) : Int) = V.int 1 ∧ [V.bl bK, V.bl bO, V.bl bS, V.bl bT, V.bl bW].findIdx? (fun z => eqV z (.bl true)) = some j ∧
      atI [V.str "kind", V.str "order", V.str "spot", V.str "text", V.str "web"] (j : Int) = some (.str y) := by
    rcases hw with ⟨rfl, rfl⟩ | ⟨rfl, rfl⟩ | ⟨rfl, rfl⟩ | ⟨rfl, rfl⟩ | ⟨rfl, rfl⟩
    · exact ⟨true, false, false, false, false, 0, T.i_BadKind_BadKind, T.i_BadKind_BadOrder, T.i_BadKind_BadSpot, T.i_BadKind_BadText, T.i_BadKind_BadWeb, rfl, rfl, rfl⟩
    · exact ⟨false, true, false, false, false, 1, T.i_BadOrder_BadKind, T.i_BadOrder_BadOrder, T.i_BadOrder_BadSpot, T.i_BadOrder_BadText, T.i_BadOrder_BadWeb, rfl, rfl, rfl⟩
    · exact ⟨false, false, true, false, false, 2, T.i_BadSpot_BadKind, T.i_BadSpot_BadOrder, T.i_BadSpot_BadSpot, T.i_BadSpot_BadText, T.i_BadSpot_BadWeb, rfl, rfl, rfl⟩
    · exact ⟨false, false, false, true, false, 3, T.i_BadText_BadKind, T.i_BadText_BadOrder, T.i_BadText_BadSpot, T.i_BadText_BadText, T.i_BadText_BadWeb, rfl, rfl, rfl⟩
    · exact ⟨false, false, false, false, true, 4, T.i_BadWeb_BadKind, T.i_BadWeb_BadOrder, T.i_BadWeb_BadSpot, T.i_BadWeb_BadText, T.i_BadWeb_BadWeb, rfl, rfl, rfl⟩
  refine ⟨_, rfl, _, _, _, _, _, rfl, rfl, ha, L, h1, _, rfl, _, _, _, _, _, rfl, rfl, ha, L, h2, _, rfl, _, _, _, _, _, rfl, rfl, ha, L, h3, (by show 3 ≤ sizeLine; decide), fun p hp => ?_⟩
  have s1 := same_new (o := .lst [V.bl bK, V.bl bO, V.bl bS]) hp
  refine ⟨_, rfl, _, rfl, _, _, _, _, _, rfl, rfl, s1 _ _ ha, L, h4, _, rfl, _, _, _, _, _, rfl, rfl, s1 _ _ ha, L, h5, (by show 2 ≤ sizeLine; decide), fun p2 hp2 => ?_⟩
  have s2 := same_new (o := .lst [V.bl bT, V.bl bW]) hp2
  refine ⟨_, _, _, _, rfl, rfl, s2 _ _ upd_same, upd_same, (by show 5 ≤ sizeLine; decide), fun p3 hp3 => ?_⟩
  have s3 := same_new (o := .lst ([V.bl bK, V.bl bO, V.bl bS] ++ [V.bl bT, V.bl bW])) hp3
  have ha3 := s3 _ _ (s2 _ _ (s1 _ _ ha))
  refine ⟨_, rfl, .inl ⟨rfl, _, SqL.of upd_same⟩, _, _, _, rfl, rfl, SqL.of upd_same, rfl, rfl, rfl, _, rfl, iteNS h6 ?_⟩
  refine ⟨_, rfl, _, _, _, _, _, rfl, rfl, ha3, L, hV, _, rfl, iteF ?_⟩
  refine ⟨(by show 5 ≤ sizeLine; decide), fun p4 hp4 => ?_⟩
  have s4 := same_new (o := .lst [V.str "kind", V.str "order", V.str "spot", V.str "text", V.str "web"]) hp4
  exact ⟨_, rfl, .inl ⟨rfl, _, SqL.of (s4 _ _ upd_same)⟩, _, _, _, _, rfl, rfl, SqL.of (s4 _ _ upd_same), rfl, rfl, h7, _, _, _, _, rfl, rfl, SqL.of upd_same, h8, q _ (((s1.trans s2).trans s3).trans s4)⟩
theorem sc_law_done : FnScope ["_law_laid", "_law_word", "_law_one", "_law_other", "_law_kept", "e"] ["_law_laid", "_law_word", "_law_one", "_law_other"] (defScope s_law_done) := ⟨rfl, rfl, rfl, by decide +kernel, rfl, by decide +kernel, by decide +kernel⟩
theorem ok_law_done (T : Txt K mg A D) {k : Nat} (G_Laid_swap : FnOk P w K mg base (CXF P w) k A.Laid_swap D.Laid_swap ["self", "one", "other"] (spDeed A.er A.Laid swapL)) (G_Laid_move : FnOk P w K mg base (CXF P w) k A.Laid_move D.Laid_move ["self", "one", "other"] (spDeed A.er A.Laid moveL)) (G_Laid_turn : FnOk P w K mg base (CXF P w) k A.Laid_turn D.Laid_turn ["self", "one", "other"] (spDeed A.er A.Laid turnL))
    (G_law_refusal : FnOk P w K mg base (CXF P w) k A.law_refusal D.law_refusal ["_law_kept"] (spRef A.er)) : FnOk P w K mg base (CXF P w) (k + 1) A.law_done D.law_done ["_law_laid", "_law_word", "_law_one", "_law_other"] (spDone A.er A.Laid) := by
  refine T.F_law_done.okF sc_law_done (fun vs H Q E h => ?_) (fun cdv A' outer s H vs Q E hr h => ?_)
  · obtain ⟨_, _, _, _, _, _, _, _, _, _, rfl, _⟩ := h
    rfl
  obtain ⟨Z, x, pa, wd, i, j, n, ts, cur, past, rfl, hZ, hL, hcl, hpl, si, sj, qn, qe⟩ := h
  obtain ⟨dx, wa, ra, hx, dw, hra⟩ := hL.at
  have hno : ∀ {m : Str}, ¬ m = "past" → ¬ m = "row" → ¬ m = "web" → (laidF wa ra pa).lookup m = none := fun {m} => laid_no wa ra pa
  have te : ¬ inR cur i j → ∀ H', Same H H' → Told A.er H Q (.ref A.er.BadSpot) none H' := fun h H' e => ⟨"spot", _, e, rfl, .spot, fun H'' e' => qe h H'' (e.trans e')⟩
  refine ⟨_, (pss_cons (ps_set (i := 4) sc_law_done.nd rfl (Or.inl rfl) pe_non)
(pss_cons (ps_try own_cx rfl rfl T.m_LayError T.x_LayError rfl sc_law_done.nd (i := 5) rfl rfl (fun xe pn E PX => (pss_one (ps_if (pt_cmpR op_eq (pv 1) pe_int (nomark _))
(pss_one (ps_expr (pe_meth (pv 0) T.cl_Laid T.me_Laid_swap G_Laid_swap hr T.b_Laid_swap .nil PX (pa_cons (pv 2) (pa_cons (pv 3) pa_nil)))))
(pss_one (ps_if (pt_cmpR op_eq (pv 1) pe_int (nomark _))
(pss_one (ps_expr (pe_meth (pv 0) T.cl_Laid T.me_Laid_move G_Laid_move hr T.b_Laid_move .nil PX (pa_cons (pv 2) (pa_cons (pv 3) pa_nil)))))
(pss_one (ps_expr (pe_meth (pv 0) T.cl_Laid T.me_Laid_turn G_Laid_turn hr T.b_Laid_turn .nil PX (pa_cons (pv 2) (pa_cons (pv 3) pa_nil)))))))))) (fun v => (pss_one (ps_set (i := 4) sc_law_done.nd rfl (Or.inl rfl) (pv 5)))))
(pss_one (ps_ret (pe_call G_law_refusal hr rfl T.m_law_refusal T.F_law_refusal.kp T.b_law_refusal .nil pass0F (pa_cons (pv 4) pa_nil)))))), ?_⟩
  refine ⟨Told A.er H Q, ?_, ?_⟩
  · refine ⟨_, rfl, rfl, _, rfl, ?_⟩
    by_cases c0 : wd = 0
    · refine iteDT (congrArg V.int c0) ⟨_, rfl, x, dx, _, rfl, hx, hno (by decide +kernel) (by decide +kernel) (by decide +kernel), _, rfl, _, rfl, Z, x, pa, i, j, n, ts, cur, past, rfl, hZ, hL, hcl, hpl, si, sj, fun hin H' hL' e' => ?_, te⟩
      refine ⟨_, rfl, _, rfl, .inl ⟨rfl, qn hin H' ?_ e'⟩⟩
      unfold deedL
      rw [if_pos c0]
      exact hL'
    refine iteDF (fun z => c0 (V.int.inj z)) ⟨_, rfl, rfl, _, rfl, ?_⟩
    by_cases c1 : wd = 1
    · refine iteDT (congrArg V.int c1) ⟨_, rfl, x, dx, _, rfl, hx, hno (by decide +kernel) (by decide +kernel) (by decide +kernel), _, rfl, _, rfl, Z, x, pa, i, j, n, ts, cur, past, rfl, hZ, hL, hcl, hpl, si, sj, fun hin H' hL' e' => ?_, te⟩
      refine ⟨_, rfl, _, rfl, .inl ⟨rfl, qn hin H' ?_ e'⟩⟩
      unfold deedL
      rw [if_neg c0, if_pos c1]
      exact hL'
    refine iteDF (fun z => c1 (V.int.inj z)) ⟨_, rfl, x, dx, _, rfl, hx, hno (by decide +kernel) (by decide +kernel) (by decide +kernel), _, rfl, _, rfl, Z, x, pa, i, j, n, ts, cur, past, rfl, hZ, hL, hcl, hpl, si, sj, fun hin H' hL' e' => ?_, te⟩
    refine ⟨_, rfl, _, rfl, .inl ⟨rfl, qn hin H' ?_ e'⟩⟩
    unfold deedL
    rw [if_neg c0, if_neg c1]
    exact hL'
  · rintro C H1 ⟨y, C', e1, hC, hw, q⟩
    cases hC
    obtain ⟨f1, f2, _, _⟩ := ref_facts T hw
    refine ⟨⟨_, _, f1⟩, f2, fun a H2 e2 ha => ?_⟩
    exact ⟨_, rfl, _, rfl, _, rfl, .inr ⟨a, C, y, rfl, ha, hw, fun H' e' => q H' (e2.trans e')⟩⟩
theorem sc_law_made : FnScope ["_law_web_here", "_law_order_here", "_law_kept", "e"] ["_law_web_here", "_law_order_here"] (defScope s_law_made) := ⟨rfl, rfl, rfl, by decide +kernel, rfl, by decide +kernel, by decide +kernel⟩
theorem ok_law_made (T : Txt K mg A D) {k : Nat} (G_Laid_init : FnOk P w K mg base (CXF P w) k A.Laid_init D.Laid_init ["self", "web", "order"] (spInit A.er A.Laid)) (G_law_refusal : FnOk P w K mg base (CXF P w) (k + 1) A.law_refusal D.law_refusal ["_law_kept"] (spRef A.er)) :
    FnOk P w K mg base (CXF P w) (k + 2) A.law_made D.law_made ["_law_web_here", "_law_order_here"] spMade := by
  refine T.F_law_made.okF sc_law_made (fun vs H Q E h => ?_) (fun cdv A' outer s H vs Q E hr h => ?_)
  · obtain ⟨_, _, _, _, _, rfl, _⟩ := h
    rfl
  obtain ⟨v, l, n, ts, ns, rfl, dv, hl, win, oin, hor, qw, qo⟩ := h
  refine ⟨_, (pss_cons (ps_set (i := 2) sc_law_made.nd rfl (Or.inl rfl) pe_non)
(pss_cons (ps_try own_cx rfl rfl T.m_LayError T.x_LayError rfl sc_law_made.nd (i := 3) rfl rfl (fun xe pn E PX => (pss_one (ps_expr (pe_make T.mk_Laid G_Laid_init hr rfl T.m_Laid T.b_Laid_init .nil PX (pa_cons (pv 0) (pa_cons (pv 1) pa_nil)))))) (fun v => (pss_one (ps_set (i := 2) sc_law_made.nd rfl (Or.inl rfl) (pv 3)))))
(pss_one (ps_ret (pe_call G_law_refusal hr rfl T.m_law_refusal T.F_law_refusal.kp T.b_law_refusal .nil pass0F (pa_cons (pv 2) pa_nil)))))), ?_⟩
  refine ⟨Told A.er H Q, ?_, ?_⟩
  · refine ⟨_, rfl, _, rfl, fun x dx nx ndx nex => ?_⟩
    have s0 : Same H (upd (upd H dx (.own x)) x (.ins A.Laid dx [])) := fun b o e => by
      rw [upd_ne (ne_of_none e nx), upd_ne (ne_of_none e ndx)]
      exact e
    refine ⟨x, dx, v, l, n, ts, ns, rfl, upd_same, ⟨dv.mono s0, s0 _ _ hl, win, oin, fun h H' e => ⟨"web", _, s0.trans e, rfl, .web, fun H'' e' => qw h H'' ((s0.trans e).trans e')⟩, fun h1 _ H' e => ⟨"order", _, s0.trans e, rfl, .order, fun H'' e' => qo h1 H'' ((s0.trans e).trans e')⟩⟩, fun h1 h2 => ?_⟩
    rw [hor h1] at h2
    cases h2
  · rintro C H1 ⟨y, C', e1, hC, hw, q⟩
    cases hC
    obtain ⟨f1, f2, _, _⟩ := ref_facts T hw
    refine ⟨⟨_, _, f1⟩, f2, fun a H2 e2 ha => ?_⟩
    exact ⟨_, rfl, _, rfl, _, rfl, .inr ⟨a, C, y, rfl, ha, hw, fun H' e' => q H' (e2.trans e')⟩⟩
theorem sc_law_deed : FnScope ["_law_row", "_law_word", "_law_one", "_law_other", "_law_found", "_law_rest", "_law_low", "_law_high"] ["_law_row", "_law_word", "_law_one", "_law_other"] (defScope s_law_deed) := ⟨rfl, rfl, rfl, by decide +kernel, rfl, by decide +kernel, by decide +kernel⟩
theorem ok_law_deed (T : Txt K mg A D) {k : Nat} : FnOk P w K mg base (CXF P w) (k + 1) A.law_deed D.law_deed ["_law_row", "_law_word", "_law_one", "_law_other"] spLDeed := by
  refine T.F_law_deed.okF sc_law_deed (fun vs H Q E h => ?_) (fun cdv A' outer s H vs Q E hr h => ?_)
  · obtain ⟨_, _, _, _, _, rfl, _⟩ := h
    rfl
  obtain ⟨r, ns, wd, i, j, rfl, hrow, hin, hl, q⟩ := h
  obtain ⟨⟨hi0, hi1⟩, hj0, hj1⟩ := hin
  obtain ⟨i, rfl⟩ : ∃ m : Nat, i = m := ⟨i.toNat, by omega⟩
  obtain ⟨j, rfl⟩ : ∃ m : Nat, j = m := ⟨j.toNat, by omega⟩
  have hi : i < ns.length := by omega
  have hj : j < ns.length := by omega
  have ai : atI (ns.map V.int) (i : Int) = some (.int (ns.getD i 0)) := atI_nat (by rw [List.getElem?_map, List.getElem?_eq_getElem hi, getD_at hi]; rfl)
  have aj : atI (ns.map V.int) (j : Int) = some (.int (ns.getD j 0)) := atI_nat (by rw [List.getElem?_map, List.getElem?_eq_getElem hj, getD_at hj]; rfl)
  have hzl : (ns.map V.int).length ≤ 100 := by rw [List.length_map]; exact hl
  refine ⟨_, (pss_cons (ps_set (i := 4) sc_law_deed.nd rfl (Or.inl rfl) (pe_callTy call_list_of rfl T.z_list bt_list (pa_cons (pv 0) pa_nil)))
(pss_cons (ps_if (pt_cmpR op_eq (pv 1) pe_int (nomark _))
(pss_cons (ps_asg (pe_ix ix_list (pv 0) (pv 3) (fun _ _ => rfl)) (pg_sub (pv 4) (pv 2) set_list))
(pss_cons (ps_asg (pe_ix ix_list (pv 0) (pv 2) (fun _ _ => rfl)) (pg_sub (pv 4) (pv 3) set_list))
(pss_one (ps_ret (pv 4)))))
pss_nil)
(pss_cons (ps_if (pt_cmpR op_eq (pv 1) pe_int (nomark _))
(pss_cons (ps_set (i := 5) sc_law_deed.nd rfl (Or.inl rfl) (pe_op op_cat (pe_slice sl_list (pv 0) po_none (po_some (pv 2))) (pe_slice sl_list (pv 0) (po_some (pe_op op_add (pv 2) pe_int)) po_none)))
(pss_one (ps_ret (pe_op op_cat (pe_op op_cat (pe_slice sl_list (pv 5) po_none (po_some (pv 3))) (pe_lst (pa_cons (pe_ix ix_list (pv 0) (pv 2) (fun _ _ => rfl)) pa_nil))) (pe_slice sl_list (pv 5) (po_some (pv 3)) po_none)))))
pss_nil)
(pss_cons (ps_set (i := 6) sc_law_deed.nd rfl (Or.inl rfl) (pe_callB (call_min2 rfl) rfl T.z_min bt_min (pa_cons (pv 2) (pa_cons (pv 3) pa_nil))))
(pss_cons (ps_set (i := 7) sc_law_deed.nd rfl (Or.inl rfl) (pe_callB (call_max2 rfl) rfl T.z_max bt_max (pa_cons (pv 2) (pa_cons (pv 3) pa_nil))))
(pss_one (ps_ret (pe_op op_cat (pe_op op_cat (pe_slice sl_list (pv 0) po_none (po_some (pv 6))) (pe_rev (pe_slice sl_list (pv 0) (po_some (pv 6)) (po_some (pe_op op_add (pv 7) pe_int))) (pe_un un_neg pe_int))) (pe_slice sl_list (pv 0) (po_some (pe_op op_add (pv 7) pe_int)) po_none))))))))), ?_⟩
  refine ⟨_, rfl, r, _, rfl, .inl (SqL.of hrow), fun p hp => ?_⟩
  obtain ⟨s1, n1⟩ := new_pair (o := .lst (ns.map V.int)) hp
  have hrp : r ≠ p := ne_of_none hrow hp
  have ix : ∀ m : Nat, m < ns.length → ∀ xs : List V, xs.length = ns.length → ixN xs.length (m : Int) = some m := fun m hm xs hx => by
    unfold ixN
    rw [if_pos (by omega), if_pos (by omega)]
    rfl
  refine ⟨_, rfl, rfl, _, rfl, ?_⟩
  by_cases c0 : wd = 0
  · refine iteDT (congrArg V.int c0) ?_
    refine ⟨_, rfl, _, rfl, _, _, _, _, rfl, rfl, SqL.of (s1 _ _ hrow), aj, _, rfl, _, rfl, p, _, _, i, rfl, rfl, n1, ix i hi _ (by simp), ?_⟩
    refine ⟨_, rfl, _, rfl, _, _, _, _, rfl, rfl, SqL.of (by rw [upd_ne hrp]; exact s1 _ _ hrow), ai, _, rfl, _, rfl, p, _, _, j, rfl, rfl, upd_same, ix j hj _ (by simp), ?_⟩
    refine ⟨_, rfl, q p _ hp ((s1.put hp).put hp) ?_⟩
    rw [upd_same]
    show some (HO.lst (((ns.map V.int).set i (V.int (ns.getD j 0))).set j (V.int (ns.getD i 0)))) = some (HO.lst ((deedL wd ns i j).map V.int))
    unfold deedL
    rw [if_pos c0, ← List.map_set, ← List.map_set]
    rfl
  refine iteDF (fun z => c0 (V.int.inj z)) ⟨_, rfl, rfl, _, rfl, ?_⟩
  have hrow1 := s1 _ _ hrow
  by_cases c1 : wd = 1
  · refine iteDT (congrArg V.int c1) ?_
    have cl : ∀ (xs : List V) a b, xs.length ≤ 200 → (cutV xs a b).length ≤ 200 := fun xs a b h => Nat.le_trans (cutV_length _ _ _) h
    refine ⟨_, rfl, _, rfl, _, rfl, r, _, rfl, SqL.of hrow1, fun p1 hp1 => ?_⟩
    obtain ⟨t1, m1⟩ := new_pair (o := .lst (cutV (ns.map V.int) none (some (i : Int)))) hp1
    refine ⟨_, rfl, _, rfl, _, _, rfl, rfl, _, rfl, r, _, rfl, SqL.of (t1 _ _ hrow1), fun p2 hp2 => ?_⟩
    obtain ⟨t2, m2⟩ := new_pair (o := .lst (cutV (ns.map V.int) (some ((i : Int) + 1)) none)) hp2
    have c1' := Nat.le_trans (cutV_length (ns.map V.int) none (some (i : Int))) hzl
    have c2' := Nat.le_trans (cutV_length (ns.map V.int) (some ((i : Int) + 1)) none) hzl
    refine ⟨_, _, _, _, rfl, rfl, t2 _ _ m1, m2, (by rw [sizeLine_eq]; omega), fun p3 hp3 => ?_⟩
    have e1 : (i : Int) + 1 = ((i + 1 : Nat) : Int) := by omega
    have ze : cutV (ns.map V.int) none (some (i : Int)) ++ cutV (ns.map V.int) (some ((i : Int) + 1)) none = (ns.take i ++ ns.drop (i + 1)).map V.int := by
      rw [e1, cut_take, cut_drop, List.map_append, List.map_take, List.map_drop]
    rw [ze]
    have hR : ((ns.take i ++ ns.drop (i + 1)).map V.int).length ≤ 200 := by
      rw [List.length_map, List.length_append, List.length_take, List.length_drop]
      omega
    generalize hRe : ns.take i ++ ns.drop (i + 1) = R at hR ⊢
    obtain ⟨t3, m3⟩ := new_pair (o := .lst (R.map V.int)) hp3
    have t13 := (t1.trans t2).trans t3
    refine ⟨_, rfl, _, rfl, _, rfl, p3, _, rfl, SqL.of m3, fun p4 hp4 => ?_⟩
    obtain ⟨t4, m4⟩ := new_pair (o := .lst (cutV (R.map V.int) none (some (j : Int)))) hp4
    refine ⟨_, rfl, _, rfl, _, _, _, _, rfl, rfl, SqL.of (t4 _ _ (t13 _ _ hrow1)), ai, (by show 1 ≤ sizeLine; decide), fun p5 hp5 => ?_⟩
    obtain ⟨t5, m5⟩ := new_pair (o := .lst [V.int (ns.getD i 0)]) hp5
    have c3 := cl (R.map V.int) none (some (j : Int)) hR
    have c4 := cl (R.map V.int) (some (j : Int)) none hR
    refine ⟨_, _, _, _, rfl, rfl, t5 _ _ m4, m5, (by rw [sizeLine_eq]; show _ + 1 ≤ _; omega), fun p6 hp6 => ?_⟩
    obtain ⟨t6, m6⟩ := new_pair (o := .lst (cutV (R.map V.int) none (some (j : Int)) ++ [V.int (ns.getD i 0)])) hp6
    have t46 := (t4.trans t5).trans t6
    refine ⟨_, rfl, _, rfl, _, rfl, p3, _, rfl, SqL.of (t46 _ _ m3), fun p7 hp7 => ?_⟩
    obtain ⟨t7, m7⟩ := new_pair (o := .lst (cutV (R.map V.int) (some (j : Int)) none)) hp7
    refine ⟨_, _, _, _, rfl, rfl, t7 _ _ m6, m7, (by rw [sizeLine_eq, List.length_append]; show _ + 1 + _ ≤ _; omega), fun p8 hp8 => ?_⟩
    have t17 := (t13.trans t46).trans t7
    obtain ⟨t8, m8⟩ := new_pair (o := .lst ((cutV (R.map V.int) none (some (j : Int)) ++ [V.int (ns.getD i 0)]) ++ cutV (R.map V.int) (some (j : Int)) none)) hp8
    refine q p8 _ ((s1.trans t17).free hp8) ((s1.trans t17).trans t8) (m8.trans ?_)
    show _ = some (HO.lst ((deedL wd ns i j).map V.int))
    unfold deedL
    rw [if_neg c0, if_pos c1]
    unfold moveL
    rw [hRe, cut_take, cut_drop, List.map_append, List.map_append, List.map_take, List.map_drop]
    rfl
  refine iteDF (fun z => c1 (V.int.inj z)) ?_
  have elo : (if (j : Int) < (i : Int) then (j : Int) else (i : Int)) = ((min i j : Nat) : Int) := by split <;> omega
  have ehi : (if (j : Int) > (i : Int) then (j : Int) else (i : Int)) = ((max i j : Nat) : Int) := by split <;> omega
  have eh1 : ((max i j : Nat) : Int) + 1 = ((max i j + 1 : Nat) : Int) := by omega
  refine ⟨_, rfl, _, rfl, _, _, rfl, ?_⟩
  refine ⟨_, rfl, _, rfl, _, _, rfl, ?_⟩
  dsimp only
  rw [elo, ehi]
  refine ⟨_, rfl, _, rfl, _, rfl, r, _, rfl, SqL.of hrow1, fun p1 hp1 => ?_⟩
  obtain ⟨t1, m1⟩ := new_pair (o := .lst (cutV (ns.map V.int) none (some ((min i j : Nat) : Int)))) hp1
  refine ⟨_, rfl, _, rfl, _, rfl, _, rfl, _, _, rfl, rfl, _, rfl, r, _, rfl, SqL.of (t1 _ _ hrow1), fun p2 hp2 => ?_⟩
  dsimp only
  rw [eh1]
  obtain ⟨t2, m2⟩ := new_pair (o := .lst (cutV (ns.map V.int) (some ((min i j : Nat) : Int)) (some ((max i j + 1 : Nat) : Int)))) hp2
  refine ⟨_, rfl, rfl, p2, _, rfl, SqL.of m2, fun p3 hp3 => ?_⟩
  obtain ⟨t3, m3⟩ := new_pair (o := .lst (cutV (ns.map V.int) (some ((min i j : Nat) : Int)) (some ((max i j + 1 : Nat) : Int))).reverse) hp3
  have c1' := Nat.le_trans (cutV_length (ns.map V.int) none (some ((min i j : Nat) : Int))) hzl
  have c2' := Nat.le_trans (cutV_length (ns.map V.int) (some ((min i j : Nat) : Int)) (some ((max i j + 1 : Nat) : Int))) hzl
  have c3' := Nat.le_trans (cutV_length (ns.map V.int) (some ((max i j + 1 : Nat) : Int)) none) hzl
  refine ⟨_, _, _, _, rfl, rfl, t3 _ _ (t2 _ _ m1), m3, (by rw [sizeLine_eq, List.length_reverse]; omega), fun p4 hp4 => ?_⟩
  obtain ⟨t4, m4⟩ := new_pair (o := .lst (cutV (ns.map V.int) none (some ((min i j : Nat) : Int)) ++ (cutV (ns.map V.int) (some ((min i j : Nat) : Int)) (some ((max i j + 1 : Nat) : Int))).reverse)) hp4
  have t14 := ((t1.trans t2).trans t3).trans t4
  refine ⟨_, rfl, _, rfl, _, _, rfl, rfl, _, rfl, r, _, rfl, SqL.of (t14 _ _ hrow1), fun p5 hp5 => ?_⟩
  dsimp only
  rw [eh1]
  obtain ⟨t5, m5⟩ := new_pair (o := .lst (cutV (ns.map V.int) (some ((max i j + 1 : Nat) : Int)) none)) hp5
  refine ⟨_, _, _, _, rfl, rfl, t5 _ _ m4, m5, (by rw [sizeLine_eq, List.length_append, List.length_reverse]; omega), fun p6 hp6 => ?_⟩
  have t15 := t14.trans t5
  obtain ⟨t6, m6⟩ := new_pair (o := .lst ((cutV (ns.map V.int) none (some ((min i j : Nat) : Int)) ++ (cutV (ns.map V.int) (some ((min i j : Nat) : Int)) (some ((max i j + 1 : Nat) : Int))).reverse) ++ cutV (ns.map V.int) (some ((max i j + 1 : Nat) : Int)) none)) hp6
  refine q p6 _ ((s1.trans t15).free hp6) ((s1.trans t15).trans t6) (m6.trans ?_)
  show _ = some (HO.lst ((deedL wd ns i j).map V.int))
  unfold deedL
  rw [if_neg c0, if_neg c1]
  unfold turnL
  rw [cut_take, cut_drop, cut_mid (by rw [List.length_map]; omega) (by omega), List.map_append, List.map_append, List.map_take, List.map_drop, List.map_reverse, List.map_take, List.map_drop]
theorem sc_law_best : FnScope ["_law_web_here", "_law_row", "_law_here", "_law_best_here", "_law_one", "_law_other", "_law_new"] ["_law_web_here", "_law_row"] (defScope s_law_best) := ⟨rfl, rfl, rfl, by decide +kernel, rfl, by decide +kernel, by decide +kernel⟩
theorem ok_law_best (T : Txt K mg A D) {k : Nat} (G_law_measured : FnOk P w K mg base (CXF P w) k A.law_measured D.law_measured ["_law_web_here", "_law_kind", "_law_order_here"] spLMeas) (G_law_deed : FnOk P w K mg base (CXF P w) k A.law_deed D.law_deed ["_law_row", "_law_word", "_law_one", "_law_other"] spLDeed) :
    FnOk P w K mg base (CXF P w) (k + 1) A.law_best D.law_best ["_law_web_here", "_law_row"] spLBest := by
  refine T.F_law_best.okF sc_law_best (fun vs H Q E h => ?_) (fun cdv A' outer s H vs Q E hr h => ?_)
  · obtain ⟨_, _, _, _, _, rfl, _⟩ := h
    rfl
  obtain ⟨v, l, n, ts, cur, rfl, dv, hl, hw, win, hl64, ho, q⟩ := h
  obtain ⟨hol, _, _⟩ := ordOk_of ho
  obtain ⟨hn0, hn8, _⟩ := webOk_of hw
  have hlr : ((cur.map V.int).length : Int) = cur.length := by rw [List.length_map]
  have t1 : ("total" : Str) ≠ "longest" := by decide +kernel
  have t2 : ("total" : Str) ≠ "most" := by decide +kernel
  refine ⟨_, (pss_cons (ps_set (i := 2) sc_law_best.nd rfl (Or.inl rfl) (pe_call G_law_measured hr rfl T.m_law_measured T.F_law_measured.kp T.b_law_measured .nil pass0F (pa_cons (pv 0) (pa_cons pe_str (pa_cons (pv 1) pa_nil)))))
(pss_cons (ps_set (i := 3) sc_law_best.nd rfl (Or.inl rfl) pe_non)
(pss_cons (ps_for passesOwn_cx rfl (pi_range1 rfl T.z_range (pa_cons (pe_callB call_len_seq rfl T.z_len PySem.boot_len (pa_cons (pv 1) pa_nil)) pa_nil)) (pg_name (i := 4) sc_law_best.nd rfl (Or.inl rfl))
(pss_one (ps_for passesOwn_cx rfl (pi_range2 rfl T.z_range (pa_cons (pe_op op_add (pv 4) pe_int) (pa_cons (pe_callB call_len_seq rfl T.z_len PySem.boot_len (pa_cons (pv 1) pa_nil)) pa_nil))) (pg_name (i := 5) sc_law_best.nd rfl (Or.inl rfl))
(pss_cons (ps_set (i := 6) sc_law_best.nd rfl (Or.inl rfl) (pe_call G_law_measured hr rfl T.m_law_measured T.F_law_measured.kp T.b_law_measured .nil pass0F (pa_cons (pv 0) (pa_cons pe_str (pa_cons (pe_call G_law_deed hr rfl T.m_law_deed T.F_law_deed.kp T.b_law_deed .nil pass0F (pa_cons (pv 1) (pa_cons pe_int (pa_cons (pv 4) (pa_cons (pv 5) pa_nil))))) pa_nil)))))
(pss_one (ps_if (PW.pt (pw_and (pt_cmpR op_lt (pv 6) (pv 2) (nomark _)) (pw_and1 (PW.pt (pw_or (pt_cmp (pc_isN (pv 3))) (pw_or1 (pt_cmpR op_lt (pv 6) (pe_ix ix_tup (pv 3) pe_int (fun _ _ => rfl)) (nomark _))))))))
(pss_one (ps_set (i := 3) sc_law_best.nd rfl (Or.inl rfl) (pe_tup (pa_cons (pv 6) (pa_cons (pv 4) (pa_cons (pv 5) pa_nil))))))
pss_nil))))))
(pss_one (ps_ret (pe_ifExp (pt_cmp (pc_isN (pv 3))) pe_non (pe_slice sl_tup (pv 3) (po_some pe_int) po_none))))))), ?_⟩
  refine ⟨_, rfl, _, rfl, v, "total", l, n, ts, cur, rfl, dv, hl, hw, win, hl64, ho, fun z => absurd z t1, fun z => absurd z t2, fun _ _ H1 e1 => ?_⟩
  refine ⟨_, rfl, _, _, rfl, .inl (SqL.of (e1 _ _ hl)), _, rfl, by omega, by omega, ?_⟩
  rw [hlr]
  have hto : ((cur.length : Int)).toNat = cur.length := by omega
  rw [hto]
  refine for_in cur.length (fun i σ H' => ∃ bv v4 v5 v6, σ = [some v, some (.ref l), some (.int (totF n cur ts)), some bv, v4, v5, v6] ∧ Same H H' ∧
      (((bestTo (fun p => totF n (swapL cur p.1 p.2) ts) (totF n cur ts) (pairsTo cur.length i)).1 = none ∧ bv = .non) ∨ ∃ bi bj ba, (bestTo (fun p => totF n (swapL cur p.1 p.2) ts) (totF n cur ts) (pairsTo cur.length i)).1 = some (bi, bj) ∧ bv = .ref ba ∧ H' ba = some (.tup [V.int (bestTo (fun p => totF n (swapL cur p.1 p.2) ts) (totF n cur ts) (pairsTo cur.length i)).2, V.int (bi : Int), V.int (bj : Int)])))
    ⟨.non, none, none, none, rfl, e1, .inl ⟨rfl, rfl⟩⟩ (fun i σ H' hi _ => hi) (fun σ H' _ => Nat.le_refl _) ?_ ?_
  · rintro i y σ H2 H3 hi ⟨bv, v4, v5, v6, rfl, e2, db⟩ ⟨rfl, rfl⟩
    have ei : (0 : Int) + (i : Nat) = i := by omega
    rw [ei]
    refine ⟨_, rfl, _, _, rfl, rfl, _, rfl, _, _, rfl, .inl (SqL.of (e2 _ _ hl)), _, _, rfl, ⟨by omega, by omega, by omega, by omega⟩, ?_⟩
    rw [hlr]
    have htn : ((cur.length : Int) - ((i : Int) + 1)).toNat = cur.length - (i + 1) := by omega
    rw [htn]
    refine for_in (cur.length - (i + 1)) (fun j σ H' => ∃ bv v5 v6, σ = [some v, some (.ref l), some (.int (totF n cur ts)), some bv, some (.int i), v5, v6] ∧ Same H H' ∧
        (((bestTo (fun p => totF n (swapL cur p.1 p.2) ts) (totF n cur ts) (pairsTo cur.length i ++ (List.range j).map fun t => (i, i + 1 + t))).1 = none ∧ bv = .non) ∨ ∃ bi bj ba, (bestTo (fun p => totF n (swapL cur p.1 p.2) ts) (totF n cur ts) (pairsTo cur.length i ++ (List.range j).map fun t => (i, i + 1 + t))).1 = some (bi, bj) ∧ bv = .ref ba ∧ H' ba = some (.tup [V.int (bestTo (fun p => totF n (swapL cur p.1 p.2) ts) (totF n cur ts) (pairsTo cur.length i ++ (List.range j).map fun t => (i, i + 1 + t))).2, V.int (bi : Int), V.int (bj : Int)])))
      ⟨bv, v5, v6, rfl, e2, by rw [List.range_zero, List.map_nil, List.append_nil]; exact db⟩ (fun j σ H' hj _ => hj) (fun σ H' _ => Nat.le_refl _) ?_ ?_
    · rintro j y σ H4 H5 hj ⟨bv, v5, v6, rfl, e4, db⟩ ⟨rfl, rfl⟩
      have ej : (i : Int) + 1 + (j : Nat) = ((i + 1 + j : Nat) : Int) := by omega
      rw [ej]
      refine ⟨_, rfl, _, rfl, _, rfl, _, rfl, l, cur, 0, _, _, rfl, e4 _ _ hl, ⟨⟨by omega, by omega⟩, by omega, by omega⟩, by omega, fun p H6 hp e6 hp6 => ?_⟩
      have hsw : (swapL cur i (i + 1 + j)).Perm cur := swapL_perm (by omega) (by omega)
      have ho2 := ordOk_of_perm hsw ho
      have e46 := e4.trans e6
      have zd : deedL 0 cur ((i : Nat) : Int).toNat (((i + 1 + j : Nat) : Int)).toNat = swapL cur i (i + 1 + j) := by
        unfold deedL
        rw [if_pos rfl]
        rfl
      rw [zd] at hp6
      refine ⟨v, "total", p, n, ts, swapL cur i (i + 1 + j), rfl, dv.mono e46, hp6, hw, win, hl64, ho2, fun z => absurd z t1, fun z => absurd z t2, fun _ _ H7 e7 => ?_⟩
      have e47 := e46.trans e7
      have e57 := e6.trans e7
      have hsn : pairsTo cur.length i ++ (List.range (j + 1)).map (fun t => (i, i + 1 + t)) = (pairsTo cur.length i ++ (List.range j).map fun t => (i, i + 1 + t)) ++ [(i, i + 1 + j)] := by
        rw [List.range_succ, List.map_append, List.append_assoc]
        rfl
      have hless := bestTo_less (f := fun p => totF n (swapL cur p.1 p.2) ts) (here := totF n cur ts) (ps := pairsTo cur.length i ++ (List.range j).map fun t => (i, i + 1 + t))
      have hs1 : totF n (swapL cur i (i + 1 + j)) ts < (bestTo (fun p => totF n (swapL cur p.1 p.2) ts) (totF n cur ts) (pairsTo cur.length i ++ (List.range j).map fun t => (i, i + 1 + t))).2 → bestTo (fun p => totF n (swapL cur p.1 p.2) ts) (totF n cur ts) (pairsTo cur.length i ++ (List.range (j + 1)).map fun t => (i, i + 1 + t)) = (some (i, i + 1 + j), totF n (swapL cur i (i + 1 + j)) ts) := fun c => by
        rw [hsn, bestTo_snoc]
        unfold bstep
        rw [if_pos c]
      have hs0 : ¬ totF n (swapL cur i (i + 1 + j)) ts < (bestTo (fun p => totF n (swapL cur p.1 p.2) ts) (totF n cur ts) (pairsTo cur.length i ++ (List.range j).map fun t => (i, i + 1 + t))).2 → bestTo (fun p => totF n (swapL cur p.1 p.2) ts) (totF n cur ts) (pairsTo cur.length i ++ (List.range (j + 1)).map fun t => (i, i + 1 + t)) = bestTo (fun p => totF n (swapL cur p.1 p.2) ts) (totF n cur ts) (pairsTo cur.length i ++ (List.range j).map fun t => (i, i + 1 + t)) := fun c => by
        rw [hsn, bestTo_snoc]
        unfold bstep
        rw [if_neg c]
      generalize bestTo (fun p => totF n (swapL cur p.1 p.2) ts) (totF n cur ts) (pairsTo cur.length i ++ (List.range j).map fun t => (i, i + 1 + t)) = B at db hless hs1 hs0
      refine ⟨_, rfl, _, rfl, _, _, rfl, rfl, _, rfl, ?_⟩
      rcases db with ⟨hb, rfl⟩ | ⟨bi, bj, ba, hb, rfl, hba⟩
      · have hbt : B.2 = totF n cur ts := by
          rcases hless with h | h
          · exact h.2
          · exact absurd hb h.1
        by_cases c : totF n (swapL cur i (i + 1 + j)) ts < totF n cur ts
        · refine iteDT c ⟨_, rfl, _, rfl, iteDT rfl (iteT ⟨_, rfl, _, rfl, _, rfl, (by show 3 ≤ sizeLine; decide), fun t ht => ?_⟩)⟩
          obtain ⟨s8, n8⟩ := new_pair (o := .tup [V.int (totF n (swapL cur i (i + 1 + j)) ts), V.int (i : Int), V.int ((i + 1 + j : Nat) : Int)]) ht
          refine ⟨.ref t, _, _, rfl, e47.trans s8, .inr ⟨i, i + 1 + j, t, ?_, rfl, ?_⟩⟩
          · rw [hs1 (by omega)]
          · rw [hs1 (by omega)]
            exact n8
        · refine iteDF c (iteF ⟨.non, _, _, rfl, e47, .inl ⟨?_, rfl⟩⟩)
          rw [hs0 (by omega)]
          exact hb
      · have hbt : B.2 < totF n cur ts := by
          rcases hless with h | h
          · rw [h.1] at hb
            cases hb
          · exact h.2
        have hba7 := e57 _ _ hba
        by_cases c : totF n (swapL cur i (i + 1 + j)) ts < B.2
        · refine iteDT (by omega) ⟨_, rfl, _, rfl, iteDF (fun z => nomatch z) ⟨_, rfl, _, rfl, _, _, _, _, rfl, rfl, SqT.of hba7, rfl, _, _, rfl, rfl, _, rfl, iteDT c ⟨_, rfl, _, rfl, _, rfl, (by show 3 ≤ sizeLine; decide), fun t ht => ?_⟩⟩⟩
          obtain ⟨s8, n8⟩ := new_pair (o := .tup [V.int (totF n (swapL cur i (i + 1 + j)) ts), V.int (i : Int), V.int ((i + 1 + j : Nat) : Int)]) ht
          refine ⟨.ref t, _, _, rfl, e47.trans s8, .inr ⟨i, i + 1 + j, t, ?_, rfl, ?_⟩⟩
          · rw [hs1 c]
          · rw [hs1 c]
            exact n8
        · have keep : ∃ bi bj ba', (bestTo (fun p => totF n (swapL cur p.1 p.2) ts) (totF n cur ts) (pairsTo cur.length i ++ (List.range (j + 1)).map fun t => (i, i + 1 + t))).1 = some (bi, bj) ∧ V.ref ba = .ref ba' ∧ H7 ba' = some (.tup [V.int (bestTo (fun p => totF n (swapL cur p.1 p.2) ts) (totF n cur ts) (pairsTo cur.length i ++ (List.range (j + 1)).map fun t => (i, i + 1 + t))).2, V.int (bi : Int), V.int (bj : Int)]) := by
            rw [hs0 c]
            exact ⟨bi, bj, ba, hb, rfl, hba7⟩
          by_cases c2 : totF n (swapL cur i (i + 1 + j)) ts < totF n cur ts
          · refine iteDT c2 ⟨_, rfl, _, rfl, iteDF (fun z => nomatch z) ⟨_, rfl, _, rfl, _, _, _, _, rfl, rfl, SqT.of hba7, rfl, _, _, rfl, rfl, _, rfl, iteDF c ⟨.ref ba, _, _, rfl, e47, .inr keep⟩⟩⟩
          · exact iteDF c2 (iteF ⟨.ref ba, _, _, rfl, e47, .inr keep⟩)
    · rintro σ H4 ⟨bv, v5, v6, rfl, e4, db⟩
      exact ⟨bv, _, _, _, rfl, e4, db⟩
  · rintro σ H2 ⟨bv, v4, v5, v6, rfl, e2, db⟩
    rcases db with ⟨hb, rfl⟩ | ⟨bi, bj, ba, hb, rfl, hba⟩
    · refine ⟨_, rfl, _, rfl, iteDT rfl (q .non H2 e2 ?_)⟩
      unfold bestOf
      rw [hb]
      exact Dat.none
    · refine ⟨_, rfl, _, rfl, iteDF (fun z => nomatch z) ?_⟩
      refine ⟨_, rfl, _, rfl, ba, _, rfl, SqT.of hba, (by show ¬ (HT.sIx 3 0 (some 1) = 0 ∧ HT.sIx 3 3 none = 3); decide), fun p hp => ?_⟩
      obtain ⟨s3, n3⟩ := new_pair (o := .tup [V.int (bi : Int), V.int (bj : Int)]) hp
      refine q (.ref p) _ (e2.trans s3) ?_
      unfold bestOf
      rw [hb]
      exact Dat.tuple n3 (.cons .int (.cons .int .nil))
theorem sc_law_same : FnScope ["_law_laid", "_law_web_here", "_law_row"] ["_law_laid", "_law_web_here", "_law_row"] (defScope s_law_same) := ⟨rfl, rfl, rfl, by decide +kernel, rfl, by decide +kernel, by decide +kernel⟩
theorem ok_law_same (T : Txt K mg A D) {k : Nat} (G_Laid_order : FnOk P w K mg base (CXF P w) k A.Laid_order D.Laid_order ["self"] (spLOrder A.Laid)) (G_Laid_gaps : FnOk P w K mg base (CXF P w) k A.Laid_gaps D.Laid_gaps ["self"] (spLGapsM A.Laid)) (G_Laid_best_swap : FnOk P w K mg base (CXF P w) k A.Laid_best_swap D.Laid_best_swap ["self"] (spLBestM A.Laid))
    (G_Laid_longest : FnOk P w K mg base (CXF P w) k A.Laid_longest D.Laid_longest ["self"] (spLNum A.Laid longF)) (G_Laid_total : FnOk P w K mg base (CXF P w) k A.Laid_total D.Laid_total ["self"] (spLNum A.Laid totF)) (G_law_gaps : FnOk P w K mg base (CXF P w) k A.law_gaps D.law_gaps ["_law_web_here", "_law_order_here"] spLGaps) (G_law_best : FnOk P w K mg base (CXF P w) k A.law_best D.law_best ["_law_web_here", "_law_row"] spLBest)
    (G_law_measured : FnOk P w K mg base (CXF P w) k A.law_measured D.law_measured ["_law_web_here", "_law_kind", "_law_order_here"] spLMeas) (G_law_whole : FnOk P w K mg base (CXF P w) k A.law_whole D.law_whole ["_law_found"] spWhole) :
    FnOk P w K mg base (CXF P w) (k + 1) A.law_same D.law_same ["_law_laid", "_law_web_here", "_law_row"] (spLSame A.Laid) := by
  refine T.F_law_same.okF sc_law_same (fun vs H Q E h => ?_) (fun cdv A' outer s H vs Q E hr h => ?_)
  · obtain ⟨_, _, _, _, _, _, rfl, _⟩ := h
    rfl
  obtain ⟨x, v, l, n, ts, cur, rfl, hok, dv, hl, hl64, q⟩ := h
  obtain ⟨pa, past, hL⟩ := hok.at_
  obtain ⟨dx, wa, ra, hx, dw, hra⟩ := hL.at
  have okL : ∀ {H' : Hp}, Same H H' → LaidOk A.Laid H' x n ts cur := fun {H'} e => ⟨⟨pa, past, hL.later e⟩, hok.web, hok.win, hok.ord, hok.oin⟩
  have hno : ∀ {m : Str}, ¬ m = "past" → ¬ m = "row" → ¬ m = "web" → (laidF wa ra pa).lookup m = none := fun {m} => laid_no wa ra pa
  have t1 : ("total" : Str) ≠ "longest" := by decide +kernel
  have t2 : ("total" : Str) ≠ "most" := by decide +kernel
  have t3 : ("longest" : Str) ≠ "most" := by decide +kernel
  have dep : ∀ ms : List Int, min (PyData.depth (.list (ms.map .int))) (PyData.depth (.list (ms.map .int))) ≤ 60 := fun ms => by
    show min (PyData.depthAll (ms.map .int) + 1) (PyData.depthAll (ms.map .int) + 1) ≤ 60
    rw [depth_ints]
    decide
  refine ⟨_, (pss_cons (ps_if (PW.pt (pw_or (pt_cmpR (op_neD hr.units) (pe_meth0 (pv 0) T.cl_Laid T.me_Laid_order G_Laid_order hr T.b_Laid_order .nil pass0F) (pv 2) (nomark _)) (pw_or (pt_cmpR (op_neD hr.units) (pe_meth0 (pv 0) T.cl_Laid T.me_Laid_gaps G_Laid_gaps hr T.b_Laid_gaps .nil passes_cx) (pe_call G_law_gaps hr rfl T.m_law_gaps T.F_law_gaps.kp T.b_law_gaps .nil pass0F (pa_cons (pv 1) (pa_cons (pv 2) pa_nil))) (nomark _)) (pw_or1 (pt_cmpR (op_neD hr.units) (pe_meth0 (pv 0) T.cl_Laid T.me_Laid_best_swap G_Laid_best_swap hr T.b_Laid_best_swap .nil passes_cx) (pe_call G_law_best hr rfl T.m_law_best T.F_law_best.kp T.b_law_best .nil pass0F (pa_cons (pv 1) (pa_cons (pv 2) pa_nil))) (nomark _))))))
(pss_one (ps_ret pe_bl))
pss_nil)
(pss_cons (ps_expr (pe_bm PySem.F.plainAttrs_list PySem.F.slot_list_append PySem.F.type_list_append mt_append (pe_meth0 (pv 0) T.cl_Laid T.me_Laid_order G_Laid_order hr T.b_Laid_order .nil pass0F) (pa_cons pe_int pa_nil)))
(pss_cons (ps_expr (pe_bm PySem.F.plainAttrs_list PySem.F.slot_list_append PySem.F.type_list_append mt_append (pe_meth0 (pv 0) T.cl_Laid T.me_Laid_gaps G_Laid_gaps hr T.b_Laid_gaps .nil passes_cx) (pa_cons pe_int pa_nil)))
(pss_cons (ps_if (PW.pt (pw_or (pt_cmpR op_ne (pe_meth0 (pv 0) T.cl_Laid T.me_Laid_longest G_Laid_longest hr T.b_Laid_longest .nil passes_cx) (pe_call G_law_measured hr rfl T.m_law_measured T.F_law_measured.kp T.b_law_measured .nil pass0F (pa_cons (pv 1) (pa_cons pe_str (pa_cons (pv 2) pa_nil)))) (nomark _)) (pw_or1 (pt_not (pt_val (pe_call G_law_whole hr rfl T.m_law_whole T.F_law_whole.kp T.b_law_whole .nil pass0F (pa_cons (pe_meth0 (pv 0) T.cl_Laid T.me_Laid_total G_Laid_total hr T.b_Laid_total .nil passes_cx) pa_nil)))))))
(pss_one (ps_ret pe_bl))
pss_nil)
(pss_one (ps_ret (pe_cmpR op_eq (pe_meth0 (pv 0) T.cl_Laid T.me_Laid_total G_Laid_total hr T.b_Laid_total .nil passes_cx) (pe_call G_law_measured hr rfl T.m_law_measured T.F_law_measured.kp T.b_law_measured .nil pass0F (pa_cons (pv 1) (pa_cons pe_str (pa_cons (pv 2) pa_nil)))) (nomark _)))))))), ?_⟩
  -- order
  refine ⟨_, rfl, x, dx, _, rfl, hx, hno (by decide +kernel) (by decide +kernel) (by decide +kernel), x, n, ts, cur, rfl, hok, fun p1 H1 hp1 e1 h1 => ?_⟩
  refine ⟨_, rfl, .list (cur.map .int), .list (cur.map .int), (Dat.ints h1).rep, (Dat.ints (e1 _ _ hl)).rep, lay_ints cur, lay_ints cur, dep cur, _, rfl, ite_ne_same (lay_ints cur) ?_⟩
  -- gaps
  refine ⟨_, rfl, x, dx, _, rfl, e1 _ _ hx, hno (by decide +kernel) (by decide +kernel) (by decide +kernel), x, n, ts, cur, rfl, okL e1, fun p2 H2 hp2 e2 h2 => ?_⟩
  have e12 := e1.trans e2
  refine ⟨_, rfl, _, rfl, v, l, n, ts, cur, rfl, dv.mono e12, e12 _ _ hl, hok.web, hok.win, hok.ord, fun p3 H3 hp3 e3 h3 => ?_⟩
  have e13 := e12.trans e3
  refine ⟨.list ((gapsL (n - 1).toNat cur ts).map .int), .list ((gapsL (n - 1).toNat cur ts).map .int), (Dat.ints (e3 _ _ h2)).rep, (Dat.ints h3).rep, lay_ints _, lay_ints _, dep _, _, rfl, ite_ne_same (lay_ints _) ?_⟩
  -- best swap
  refine ⟨_, rfl, x, dx, _, rfl, e13 _ _ hx, hno (by decide +kernel) (by decide +kernel) (by decide +kernel), x, n, ts, cur, rfl, okL e13, fun v4 H4 e4 d4 => ?_⟩
  have e14 := e13.trans e4
  refine ⟨_, rfl, _, rfl, v, l, n, ts, cur, rfl, dv.mono e14, e14 _ _ hl, hok.web, hok.win, hl64, hok.ord, fun v5 H5 e5 d5 => ?_⟩
  have e15 := e14.trans e5
  refine ⟨bestD (bestOf n ts cur), bestD (bestOf n ts cur), (d4.mono e5).rep, d5.rep, lay_best _, lay_best _, (by have := depth_best (bestOf n ts cur); omega), _, rfl, ite_ne_same (lay_best _) ?_⟩
  -- what is told may be changed
  refine ⟨_, rfl, x, dx, _, rfl, e15 _ _ hx, hno (by decide +kernel) (by decide +kernel) (by decide +kernel), x, n, ts, cur, rfl, okL e15, fun p6 H6 hp6 e6 h6 => ?_⟩
  have hcl : (cur.map V.int).length ≤ 1000 := by rw [List.length_map]; exact hok.oin.len
  refine ⟨.inl ⟨rfl, _, SqL.of h6⟩, p6, _, _, rfl, rfl, h6, (by rw [sizeLine_eq]; omega), ?_⟩
  have e17 : Same H (upd H6 p6 (.lst (cur.map V.int ++ [V.int 0]))) := (e15.trans e6).put (e15.free hp6)
  refine ⟨_, rfl, x, dx, _, rfl, e17 _ _ hx, hno (by decide +kernel) (by decide +kernel) (by decide +kernel), x, n, ts, cur, rfl, okL e17, fun p8 H8 hp8 e8 h8 => ?_⟩
  have hn8 := (webOk_of hok.web).2.1
  have hgl : ((gapsL (n - 1).toNat cur ts).map V.int).length ≤ 64 := by
    unfold gapsL
    rw [List.length_map, List.length_map, List.length_range]
    omega
  refine ⟨.inl ⟨rfl, _, SqL.of h8⟩, p8, _, _, rfl, rfl, h8, (by rw [sizeLine_eq]; omega), ?_⟩
  have e19 : Same H (upd H8 p8 (.lst ((gapsL (n - 1).toNat cur ts).map V.int ++ [V.int 0]))) := (e17.trans e8).put (e17.free hp8)
  -- longest, total
  refine ⟨_, rfl, x, dx, _, rfl, e19 _ _ hx, hno (by decide +kernel) (by decide +kernel) (by decide +kernel), x, n, ts, cur, rfl, okL e19, fun H10 e10 => ?_⟩
  have e110 := e19.trans e10
  refine ⟨_, rfl, _, rfl, v, "longest", l, n, ts, cur, rfl, dv.mono e110, e110 _ _ hl, hok.web, hok.win, hl64, hok.ord, fun _ H11 e11 => ?_, fun z => absurd z t3, fun z => absurd rfl z⟩
  have e111 := e110.trans e11
  refine ⟨rfl, _, rfl, iteNS rfl ?_⟩
  refine ⟨_, rfl, x, dx, _, rfl, e111 _ _ hx, hno (by decide +kernel) (by decide +kernel) (by decide +kernel), x, n, ts, cur, rfl, okL e111, fun H12 e12' => ⟨_, rfl, .inl ⟨_, rfl, _, rfl, iteF ?_⟩⟩⟩
  have e112 := e111.trans e12'
  refine ⟨_, rfl, x, dx, _, rfl, e112 _ _ hx, hno (by decide +kernel) (by decide +kernel) (by decide +kernel), x, n, ts, cur, rfl, okL e112, fun H13 e13' => ?_⟩
  have e113 := e112.trans e13'
  refine ⟨_, rfl, _, rfl, v, "total", l, n, ts, cur, rfl, dv.mono e113, e113 _ _ hl, hok.web, hok.win, hl64, hok.ord, fun z => absurd z t1, fun z => absurd z t2, fun _ _ H14 e14' => ⟨rfl, ?_⟩⟩
  rw [decide_eq_true rfl]
  exact q H14 (e113.trans e14')
def spLaw (K : PySem.W.Frag) : Sp := fun vs H Q _ => ∃ (a : Addr) (ns : List Int), vs = [.ref a] ∧ SqL K H a (ns.map .int) ∧ ns.length ≤ 63 ∧ ∀ H', Q (.bl true) H'
theorem newT_mono {H H1 H2 : Hp} (e : Same H1 H2) : Same (NewT H H1) (NewT H H2) := fun c u h => by
  obtain ⟨h1, h2⟩ := newT_cases h
  rcases h2 with h2 | ⟨xs, h2⟩
  · rw [newT_none h2]; exact e _ _ h1
  · rw [newT_tup h2]; exact e _ _ h1
structure Turn10 (C : Addr) (H2 H' : Hp) (x pa y pb rl : Addr) (n : Int) (ts : List (List Int)) (os cur : List Int) (past : List (List Int)) (rx : List V) : Prop where
  old : Same H2 (mask rl (mask2 x pa H'))
  laid : LaidAt (fun b => decide (b = rl)) C H' x pa n ts cur past
  xl : x ≠ rl
  pl : pa ≠ rl
  bes : LaidAt Z0 C (mask rl (mask2 x pa H')) y pb n ts os []
  rows : H' rl = some (.lst rx)
  dat : DatL (mask rl (mask2 x pa H')) ((past ++ [cur]).map ordD) rx
  ord : ordOk n cur = true
  ords : ∀ r ∈ past, ordOk n r = true
section
variable {C : Addr} {H2 H' H'' : Hp} {x pa y pb rl : Addr} {n : Int} {ts : List (List Int)} {os cur : List Int} {past : List (List Int)} {rx : List V}
theorem Turn10.later (t : Turn10 C H2 H' x pa y pb rl n ts os cur past rx) (e : Same H' H'') : Turn10 C H2 H'' x pa y pb rl n ts os cur past rx :=
  have m := mask_mono (D := rl) (mask2_mono (x := x) (p := pa) e)
  ⟨t.old.trans m, t.laid.later e, t.xl, t.pl, t.bes.later m, e _ _ t.rows, t.dat.mono m, t.ord, t.ords⟩
theorem turn_fresh {Z : Addr → Bool} {l : Addr} (h1 : Same H2 (mask2 x pa H')) (h2 : LaidAt Z C H' x pa n ts cur past) (h3 : LaidAt Z0 C (mask2 x pa H') y pb n ts os []) (h4 : DatL (mask2 x pa H') ((past ++ [cur]).map ordD) rx) (h5 : ordOk n cur = true) (h6 : ∀ r ∈ past, ordOk n r = true) (hl : H' l = none) :
    Turn10 C H2 (upd H' l (.lst rx)) x pa y pb l n ts os cur past rx := by
  have e : Same (mask2 x pa H') (mask l (mask2 x pa (upd H' l (.lst rx)))) := fun b u q => by
    obtain ⟨q1, q2, q3⟩ := mask2_some q
    have hb : b ≠ l := fun z => by rw [z, hl] at q3; cases q3
    rw [mask_ne hb]
    exact mask2_at q1 q2 (by rw [upd_ne hb]; exact q3)
  obtain ⟨dx, wa, ra, ps, q1, q2, _⟩ := h2.ex
  exact ⟨h1.trans e, (h2.all.avoid hl).later (same_new hl), ne_of_none q1 hl, ne_of_none q2 hl, h3.later e, upd_same, h4.mono e, h5, h6⟩
theorem mask_mask2_upd {l : Addr} {o : HO} {H : Hp} : mask l (mask2 x pa (upd H l o)) = mask l (mask2 x pa H) := by
  funext b
  unfold mask
  by_cases e : b = l
  · rw [if_pos e, if_pos e]
  · rw [if_neg e, if_neg e]
    unfold mask2 mask
    by_cases e2 : b = pa
    · rw [if_pos e2, if_pos e2]
    · rw [if_neg e2, if_neg e2]
      by_cases e3 : b = x
      · rw [if_pos e3, if_pos e3]
      · rw [if_neg e3, if_neg e3, upd_ne e]
theorem Turn10.last (t : Turn10 C H2 H' x pa y pb rl n ts os cur past rx) : ∃ l, atI rx (-1) = some (.ref l) ∧ mask rl (mask2 x pa H') l = some (.lst (cur.map .int)) := by
  have hl := t.dat.length
  rw [List.length_map, List.length_append] at hl
  have hl' : rx.length = past.length + 1 := by
    have : [cur].length = 1 := rfl
    omega
  obtain ⟨v, h1, h2⟩ := t.dat.get (i := past.length) (d := ordD cur) (by rw [List.getElem?_map, List.getElem?_append_right (Nat.le_refl _), Nat.sub_self]; rfl)
  obtain ⟨l, rfl, h3⟩ := Dat.ints_of h2
  refine ⟨l, ?_, h3⟩
  unfold atI ixN
  rw [if_neg (by decide), if_pos (by omega)]
  have e : (-1 + (rx.length : Int)).toNat = past.length := by omega
  show rx[(-1 + (rx.length : Int)).toNat]? = _
  rw [e]
  exact h1
theorem Turn10.len (t : Turn10 C H2 H' x pa y pb rl n ts os cur past rx) : rx.length = past.length + 1 := by
  have hl := t.dat.length
  rw [List.length_map, List.length_append] at hl
  have : [cur].length = 1 := rfl
  omega
end
theorem one_val {K : PySem.W.Frag} {σ : L2.St} {H : Hp} {Q : VK} {nu n : Int} {wa : Addr} {v : V} (h8 : σ[8]? = some (some (.int nu))) (h1 : σ[1]? = some (some (.ref wa))) (hw : SqT K H wa [.int n, v]) (hn0 : 0 ≤ n) (hn8 : n ≤ 8) (q : ∀ o : Int, -1 ≤ o → o ≤ 8 → Q (.int o) H) :
    tIf (tTest (tOp rEq (tOp (rI (fun _ j => 0 < j) fun i j => .int (i % j)) (tVar 8) (tC (.int 4))) (tC (.int 0))))
      (tOp (rI0 fun i j => .int (i - j)) (tOp (rI (fun _ j => 0 < j) fun i j => .int (i % j)) (tOp (rI CDiv fun i j => .int (i / j)) (tVar 8) (tC (.int 8))) (tOp (rI0 fun i j => .int (i + j)) (tOp (rIxT K) (tVar 1) (tC (.int 0))) (tC (.int 2)))) (tC (.int 1)))
      (tOp (rI (fun _ j => 0 < j) fun i j => .int (i % j)) (tOp (rI CDiv fun i j => .int (i / j)) (tVar 8) (tC (.int 8))) (tCB (fun xs H Q => ∃ i j : Int, xs = [.int i, .int j] ∧ Q (.int (if j > i then j else i)) H) (tCons (tC (.int 1)) (tCons (tOp (rIxT K) (tVar 1) (tC (.int 0))) tNil)))) σ H Q := by
  refine ⟨_, h8, _, _, rfl, rfl, (by show (0 : Int) < 4; decide), rfl, _, rfl, ite2 (fun c => ?_) (fun c => ?_)⟩
  · refine ⟨_, h8, _, _, rfl, rfl, ⟨by decide, by decide⟩, _, h1, _, _, _, _, rfl, rfl, hw, rfl, _, _, rfl, rfl, _, _, rfl, rfl, (by show 0 < n + 2; omega), _, _, rfl, rfl, ?_⟩
    have z1 : 0 ≤ nu / 8 % (n + 2) := Int.emod_nonneg _ (by omega)
    have z2 : nu / 8 % (n + 2) < n + 2 := Int.emod_lt_of_pos _ (by omega)
    exact q _ (by omega) (by omega)
  · refine ⟨_, h8, _, _, rfl, rfl, ⟨by decide, by decide⟩, _, h1, _, _, _, _, rfl, rfl, hw, rfl, _, _, rfl, _, _, rfl, rfl, ?_, ?_⟩
    · show (0 : Int) < if n > 1 then n else 1
      split <;> omega
    · have z1 : 0 ≤ nu / 8 % (if n > 1 then n else 1) := Int.emod_nonneg _ (by split <;> omega)
      have z2 : nu / 8 % (if n > 1 then n else 1) < (if n > 1 then n else 1) := Int.emod_lt_of_pos _ (by split <;> omega)
      refine q _ (by omega) ?_
      have z3 : (if n > 1 then n else 1) ≤ 8 := by split <;> omega
      omega
theorem good_val {K : PySem.W.Frag} {σ : L2.St} {H : Hp} {Q : VK} {one other n : Int} {wa : Addr} {v : V} (h9 : σ[9]? = some (some (.int one))) (h10 : σ[10]? = some (some (.int other))) (h1 : σ[1]? = some (some (.ref wa))) (hw : SqT K H wa [.int n, v]) (q : Q (.bl (decide ((0 ≤ one ∧ one < n) ∧ other < n))) H) :
    tAndV (tChain (rI0 fun i j => .bl (decide (i ≤ j))) (rI0 fun i j => .bl (decide (i < j))) (tC (.int 0)) (tVar 9) (tOp (rIxT K) (tVar 1) (tC (.int 0)))) (tOp (rI0 fun i j => .bl (decide (i < j))) (tVar 10) (tOp (rIxT K) (tVar 1) (tC (.int 0)))) σ H Q := by
  refine ⟨_, h9, _, _, rfl, rfl, _, rfl, ?_⟩
  by_cases c1 : 0 ≤ one
  · refine iteDT c1 ⟨_, h1, _, _, _, _, rfl, rfl, hw, rfl, _, _, rfl, rfl, _, rfl, ?_⟩
    by_cases c2 : one < n
    · refine iteDT c2 ⟨_, h10, _, h1, _, _, _, _, rfl, rfl, hw, rfl, _, _, rfl, rfl, ?_⟩
      have e : decide ((0 ≤ one ∧ one < n) ∧ other < n) = decide (other < n) := decide_eq_decide.mpr ⟨fun z => z.2, fun z => ⟨⟨c1, c2⟩, z⟩⟩
      rw [e] at q
      exact q
    · refine iteDF c2 ?_
      rw [decide_eq_false fun z => c2 z.1.2] at q
      exact q
  · refine iteDF c1 ⟨_, rfl, iteF ?_⟩
    rw [decide_eq_false fun z => c1 z.1.1] at q
    exact q
theorem same_tail {K : PySem.W.Frag} {C : Addr} {σ : L2.St} {H : Hp} {De : Ends} {E : XK} {x rl l : Addr} {v : V} {rx : List V} {n : Int} {ts : List (List Int)} {cur : List Int} (h4 : σ[4]? = some (some (.ref x))) (h1 : σ[1]? = some (some v)) (h6 : σ[6]? = some (some (.ref rl))) (hrl : SqL K H rl rx) (hla : atI rx (-1) = some (.ref l))
    (hok : LaidOk C H x n ts cur) (dv : Dat H (webD n ts) v) (hl : H l = some (.lst (cur.map .int))) (h64 : ts.length ≤ 64) (q : ∀ H', Same H H' → De.nx σ H') :
    tIfS (tNot (tB (tCall (spLSame C) [] E (tCons (tVar 4) (tCons (tVar 1) (tCons (tOp (rIxL K) (tVar 6) (tUn (rU fun i => V.int (-i)) (tC (.int 1)))) tNil)))))) (tRet (tC (.bl false))) tNext De σ H :=
  ⟨_, h4, _, h1, _, h6, _, rfl, _, _, _, _, rfl, rfl, hrl, hla, x, v, l, n, ts, cur, rfl, hok, dv, hl, h64, fun H' e => ⟨_, rfl, iteF (q H' e)⟩⟩
theorem pick2 {p1 p2 : V} {i : Int} {Z : V → Prop} (h0 : 0 ≤ i) (h7 : i < 2) (z1 : Z p1) (z2 : Z p2) : ∃ v, atI [p1, p2] i = some v ∧ Z v := by
  have : i = 0 ∨ i = 1 := by omega
  rcases this with rfl | rfl
  · exact ⟨p1, rfl, z1⟩
  · exact ⟨p2, rfl, z2⟩
theorem sc_law : FnScope ["_law_script", "_law_web_here", "_law_row", "_law_handed", "_law_laid", "_law_beside", "_law_rows", "_law_k", "_law_number", "_law_one", "_law_other", "_law_good", "_law_word"] ["_law_script"] (defScope s_law) := ⟨rfl, rfl, rfl, by decide +kernel, rfl, by decide +kernel, by decide +kernel⟩
theorem ok_law (T : Txt K mg A D) {k : Nat} (G_law_mix : FnOk P w K mg base (CXF P w) (k + 1) A.law_mix D.law_mix ["_law_script", "_law_k"] (spMix K)) (G_law_web : FnOk P w K mg base (CXF P w) (k + 1) A.law_web D.law_web ["_law_script", "_law_k", "_law_places"] (spLWeb K)) (G_law_order : FnOk P w K mg base (CXF P w) (k + 1) A.law_order D.law_order ["_law_script", "_law_k", "_law_many"] (spLOrd K))
    (G_Laid_init : FnOk P w K mg base (CXF P w) k A.Laid_init D.Laid_init ["self", "web", "order"] (spInit A.er A.Laid)) (G_Laid_back : FnOk P w K mg base (CXF P w) (k + 1) A.Laid_back D.Laid_back ["self"] (spBack A.Laid)) (G_law_done : FnOk P w K mg base (CXF P w) (k + 1) A.law_done D.law_done ["_law_laid", "_law_word", "_law_one", "_law_other"] (spDone A.er A.Laid))
    (G_law_deed : FnOk P w K mg base (CXF P w) (k + 1) A.law_deed D.law_deed ["_law_row", "_law_word", "_law_one", "_law_other"] spLDeed) (G_law_same : FnOk P w K mg base (CXF P w) (k + 1) A.law_same D.law_same ["_law_laid", "_law_web_here", "_law_row"] (spLSame A.Laid)) (G_law_made : FnOk P w K mg base (CXF P w) (k + 1) A.law_made D.law_made ["_law_web_here", "_law_order_here"] spMade) :
    FnOk P w K mg base (CXF P w) (k + 2) A.law D.law ["_law_script"] (spLaw K) := by
  refine T.F_law.okF sc_law (fun vs H Q E h => ?_) (fun cdv A' outer s H vs Q E hr h => ?_)
  · obtain ⟨_, _, rfl, _⟩ := h
    rfl
  obtain ⟨a, ns, rfl, hS, h63, q⟩ := h
  refine ⟨_, (pss_cons (ps_set (i := 1) sc_law.nd rfl (Or.inl rfl) (pe_call G_law_web hr rfl T.m_law_web T.F_law_web.kp T.b_law_web .nil pass0F (pa_cons (pv 0) (pa_cons pe_int (pa_cons pe_int pa_nil)))))
(pss_cons (ps_set (i := 2) sc_law.nd rfl (Or.inl rfl) (pe_call G_law_order hr rfl T.m_law_order T.F_law_order.kp T.b_law_order .nil pass0F (pa_cons (pv 0) (pa_cons pe_int (pa_cons (pe_ix ix_tup (pv 1) pe_int (fun _ _ => rfl)) pa_nil)))))
(pss_cons (ps_set (i := 3) sc_law.nd rfl (Or.inl rfl) (pe_tup (pa_cons (pe_tup (pa_cons (pe_ix ix_tup (pv 1) pe_int (fun _ _ => rfl)) (pa_cons (pe_callTy call_list_of rfl T.z_list bt_list (pa_cons (pe_ix ix_tup (pv 1) pe_int (fun _ _ => rfl)) pa_nil)) pa_nil))) (pa_cons (pe_callTy call_list_of rfl T.z_list bt_list (pa_cons (pv 2) pa_nil)) pa_nil))))
(pss_cons (ps_set (i := 4) sc_law.nd rfl (Or.inl rfl) (pe_make T.mk_Laid G_Laid_init hr rfl T.m_Laid T.b_Laid_init .nil passes_cx (pa_cons (pe_ix ix_tup (pv 3) pe_int (fun _ _ => rfl)) (pa_cons (pe_ix ix_tup (pv 3) pe_int (fun _ _ => rfl)) pa_nil))))
(pss_cons (ps_set (i := 5) sc_law.nd rfl (Or.inl rfl) (pe_make T.mk_Laid G_Laid_init hr rfl T.m_Laid T.b_Laid_init .nil passes_cx (pa_cons (pe_ix ix_tup (pv 3) pe_int (fun _ _ => rfl)) (pa_cons (pe_ix ix_tup (pv 3) pe_int (fun _ _ => rfl)) pa_nil))))
(pss_cons (ps_expr (pe_bm PySem.F.plainAttrs_list PySem.F.slot_list_append PySem.F.type_list_append mt_append (pe_ix ix_tup (pe_ix ix_tup (pv 3) pe_int (fun _ _ => rfl)) pe_int (fun _ _ => rfl)) (pa_cons (pe_tup (pa_cons pe_int (pa_cons pe_int (pa_cons pe_int pa_nil)))) pa_nil)))
(pss_cons (ps_expr (pe_bm PySem.F.plainAttrs_list PySem.F.slot_list_append PySem.F.type_list_append mt_append (pe_ix ix_tup (pv 3) pe_int (fun _ _ => rfl)) (pa_cons pe_int pa_nil)))
(pss_cons (ps_set (i := 6) sc_law.nd rfl (Or.inl rfl) (pe_lst (pa_cons (pv 2) pa_nil)))
(pss_cons (ps_for passesOwn_cx rfl (pi_range1 rfl T.z_range (pa_cons (pe_op op_mod (pe_call G_law_mix hr rfl T.m_law_mix T.F_law_mix.kp T.b_law_mix .nil pass0F (pa_cons (pv 0) (pa_cons pe_int pa_nil))) pe_int) pa_nil)) (pg_name (i := 7) sc_law.nd rfl (Or.inl rfl))
(pss_cons (ps_set (i := 8) sc_law.nd rfl (Or.inl rfl) (pe_call G_law_mix hr rfl T.m_law_mix T.F_law_mix.kp T.b_law_mix .nil pass0F (pa_cons (pv 0) (pa_cons (pe_op op_add pe_int (pv 7)) pa_nil))))
(pss_cons (ps_set (i := 9) sc_law.nd rfl (Or.inl rfl) (pe_ifExp (pt_cmpR op_eq (pe_op op_mod (pv 8) pe_int) pe_int (nomark _)) (pe_op op_sub (pe_op op_mod (pe_op op_fdiv (pv 8) pe_int) (pe_op op_add (pe_ix ix_tup (pv 1) pe_int (fun _ _ => rfl)) pe_int)) pe_int) (pe_op op_mod (pe_op op_fdiv (pv 8) pe_int) (pe_callB (call_max2 rfl) rfl T.z_max bt_max (pa_cons pe_int (pa_cons (pe_ix ix_tup (pv 1) pe_int (fun _ _ => rfl)) pa_nil))))))
(pss_cons (ps_set (i := 10) sc_law.nd rfl (Or.inl rfl) (pe_op op_mod (pe_op op_fdiv (pv 8) pe_int) (pe_callB (call_max2 rfl) rfl T.z_max bt_max (pa_cons pe_int (pa_cons (pe_ix ix_tup (pv 1) pe_int (fun _ _ => rfl)) pa_nil)))))
(pss_cons (ps_if (pt_cmpR op_eq (pe_op op_mod (pe_op op_fdiv (pv 8) pe_int) pe_int) pe_int (nomark _))
(pss_cons (ps_if (pt_cmpR op_ne (pe_meth0 (pv 4) T.cl_Laid T.me_Laid_back G_Laid_back hr T.b_Laid_back .nil pass0F) (pe_cmpR op_gt (pe_callB call_len_seq rfl T.z_len PySem.boot_len (pa_cons (pv 6) pa_nil)) pe_int (nomark _)) (nomark _))
(pss_one (ps_ret pe_bl))
pss_nil)
(pss_one (ps_set (i := 6) sc_law.nd rfl (Or.inl rfl) (pe_slice sl_list (pv 6) po_none (po_some (pe_callB (call_max2 rfl) rfl T.z_max bt_max (pa_cons pe_int (pa_cons (pe_op op_sub (pe_callB call_len_seq rfl T.z_len PySem.boot_len (pa_cons (pv 6) pa_nil)) pe_int) pa_nil))))))))
(pss_cons (ps_set (i := 11) sc_law.nd rfl (Or.inl rfl) (pe_and (pe_chain op_le op_lt pe_int (pv 9) (pe_ix ix_tup (pv 1) pe_int (fun _ _ => rfl))) (pe_one (pe_cmpR op_lt (pv 10) (pe_ix ix_tup (pv 1) pe_int (fun _ _ => rfl)) (nomark _)))))
(pss_cons (ps_set (i := 12) sc_law.nd rfl (Or.inl rfl) (pe_op op_mod (pe_op op_fdiv (pv 8) pe_int) pe_int))
(pss_cons (ps_asg (pe_ix ix_list (pe_lst (pa_cons (pe_tup (pa_cons (pv 9) (pa_cons (pv 10) pa_nil))) (pa_cons (pe_tup (pa_cons (pv 10) (pa_cons (pv 9) pa_nil))) pa_nil))) (pe_op op_mod (pe_op op_fdiv (pv 8) pe_int) pe_int) (fun _ _ => rfl)) (pg_tup rfl (pgs_cons (pg_name (i := 9) sc_law.nd rfl (Or.inl rfl)) (pgs_cons (pg_name (i := 10) sc_law.nd rfl (Or.inl rfl)) pgs_nil))))
(pss_cons (ps_if (pt_cmpR op_ne (pe_call G_law_done hr rfl T.m_law_done T.F_law_done.kp T.b_law_done .nil pass0F (pa_cons (pv 4) (pa_cons (pv 12) (pa_cons (pv 9) (pa_cons (pv 10) pa_nil))))) (pe_ix ix_list (pe_lst (pa_cons pe_str (pa_cons pe_str pa_nil))) (pe_callTy call_int1 rfl T.z_int bt_int (pa_cons (pv 11) pa_nil)) (fun _ _ => rfl)) (nomark _))
(pss_one (ps_ret pe_bl))
pss_nil)
(pss_one (ps_if (pt_val (pv 11))
(pss_one (ps_expr (pe_bm PySem.F.plainAttrs_list PySem.F.slot_list_append PySem.F.type_list_append mt_append (pv 6) (pa_cons (pe_call G_law_deed hr rfl T.m_law_deed T.F_law_deed.kp T.b_law_deed .nil pass0F (pa_cons (pe_ix ix_list (pv 6) (pe_un un_neg pe_int) (fun _ _ => rfl)) (pa_cons (pv 12) (pa_cons (pv 9) (pa_cons (pv 10) pa_nil))))) pa_nil))))
pss_nil)))))))
(pss_one (ps_if (pt_not (pt_val (pe_call G_law_same hr rfl T.m_law_same T.F_law_same.kp T.b_law_same .nil pass0F (pa_cons (pv 4) (pa_cons (pv 1) (pa_cons (pe_ix ix_list (pv 6) (pe_un un_neg pe_int) (fun _ _ => rfl)) pa_nil))))))
(pss_one (ps_ret pe_bl))
pss_nil)))))))
(pss_cons (ps_if (PW.pt (pw_or (pt_cmpR op_ne (pe_call G_law_made hr rfl T.m_law_made T.F_law_made.kp T.b_law_made .nil pass0F (pa_cons (pe_tup (pa_cons pe_int (pa_cons (pe_lst pa_nil) pa_nil))) (pa_cons (pv 2) pa_nil))) pe_str (nomark _)) (pw_or1 (pt_cmpR op_ne (pe_call G_law_made hr rfl T.m_law_made T.F_law_made.kp T.b_law_made .nil pass0F (pa_cons (pv 1) (pa_cons (pe_op op_cat (pv 2) (pe_lst (pa_cons pe_int pa_nil))) pa_nil))) pe_str (nomark _)))))
(pss_one (ps_ret pe_bl))
pss_nil)
(pss_one (ps_ret (pe_call G_law_same hr rfl T.m_law_same T.F_law_same.kp T.b_law_same .nil pass0F (pa_cons (pv 5) (pa_cons (pv 1) (pa_cons (pv 2) pa_nil)))))))))))))))), ?_⟩
  -- the web, the row
  refine ⟨_, rfl, a, ns, 0, 6, rfl, hS, by decide, by decide, fun wv H1 n ts e1 dw hw win hn6 hl64 => ?_⟩
  obtain ⟨wa, tl, xs, rfl, hwa, htl, dl⟩ := web_of dw
  obtain ⟨hn0, hn8, htt⟩ := webOk_of hw
  have hlen : xs.length = ts.length := by rw [← dl.length, List.length_map]
  refine ⟨_, rfl, _, rfl, _, _, _, _, rfl, rfl, SqT.of hwa, rfl, a, ns, 80, n, rfl, e1.seq hS, hn0, hn8, fun ol H2 os hol e2 hos ho oin => ?_⟩
  obtain ⟨hosl, _, _⟩ := ordOk_of ho
  have hwa2 := e2 _ _ hwa
  have htl2 := e2 _ _ htl
  have dw2 := dw.mono e2
  have hS2 := (e1.trans e2).seq hS
  -- handed
  refine ⟨_, rfl, _, _, _, _, rfl, rfl, SqT.of hwa2, rfl, _, rfl, _, _, _, _, rfl, rfl, SqT.of hwa2, rfl, tl, xs, rfl, .inl (SqL.of htl2), fun l3 hl3 => ⟨(by show 2 ≤ sizeLine; decide), fun p4 hp4 => ?_⟩⟩
  obtain ⟨s3, n3⟩ := new_pair (o := .lst xs) hl3
  obtain ⟨s4, n4⟩ := new_pair (o := .tup [V.int n, V.ref l3]) hp4
  refine ⟨_, rfl, ol, _, rfl, .inl (SqL.of (s4 _ _ (s3 _ _ hos))), fun l5 hl5 => ⟨(by show 2 ≤ sizeLine; decide), fun p6 hp6 => ?_⟩⟩
  obtain ⟨s5, n5⟩ := new_pair (o := .lst (os.map V.int)) hl5
  obtain ⟨s6, n6⟩ := new_pair (o := .tup [V.ref p4, V.ref l5]) hp6
  have s26 := ((s3.trans s4).trans s5).trans s6
  have h46 := s6 _ _ (s5 _ _ n4)
  have h36 := s6 _ _ (s5 _ _ (s4 _ _ n3))
  have h56 := s6 _ _ n5
  have dl6 := (dl.mono e2).mono s26
  have l5n : H2 l5 = none := (s3.trans s4).free hl5
  generalize hH6 : upd (upd (upd (upd H2 l3 (HO.lst xs)) p4 (HO.tup [V.int n, V.ref l3])) l5 (HO.lst (os.map V.int))) p6 (HO.tup [V.ref p4, V.ref l5]) = H6 at *
  -- laid
  refine ⟨_, rfl, _, _, _, _, rfl, rfl, SqT.of n6, rfl, _, rfl, _, _, _, _, rfl, rfl, SqT.of n6, rfl, fun x dx nx ndx nex => ?_⟩
  have s0 : Same H6 (upd (upd H6 dx (.own x)) x (.ins A.Laid dx [])) := fun b o e => by rw [upd_ne (ne_of_none e nx), upd_ne (ne_of_none e ndx)]; exact e
  have s0m : Same H6 (mask x (upd (upd H6 dx (.own x)) x (.ins A.Laid dx []))) := fun b o e => by rw [mask_upd, mask_ne (ne_of_none e nx), upd_ne (ne_of_none e ndx)]; exact e
  have nw : webOk n ts = false → False := fun z => by rw [hw] at z; cases z
  have no : ordOk n os = false → False := fun z => by rw [ho] at z; cases z
  refine ⟨x, dx, .ref p4, l5, n, ts, os, rfl, upd_same, ⟨(web_mk h46 h36 dl6).mono s0, s0 _ _ h56, win, oin, fun z => (nw z).elim, fun _ z => (no z).elim⟩, fun _ _ pa H7 hpa em hL0 => ⟨rfl, ?_⟩⟩
  have E7 : Same H6 (mask2 x pa H7) := s0m.trans em
  have e7 : Same H6 H7 := E7.trans mask2_same
  have hL6 : LaidAt Z0 A.Laid (NewT H6 H7) x pa n ts os [] := hL0.later (newT_later s0m)
  obtain ⟨dx7, wx7, rx7, ps7, hx7, hpa7, _⟩ := (hL6.later newT_same).ex
  -- beside
  refine ⟨_, rfl, _, _, _, _, rfl, rfl, SqT.of (e7 _ _ n6), rfl, _, rfl, _, _, _, _, rfl, rfl, SqT.of (e7 _ _ n6), rfl, fun y dy ny ndy ney => ?_⟩
  have z0 : Same H7 (upd (upd H7 dy (.own y)) y (.ins A.Laid dy [])) := fun b o e => by rw [upd_ne (ne_of_none e ny), upd_ne (ne_of_none e ndy)]; exact e
  have z0m : Same H7 (mask y (upd (upd H7 dy (.own y)) y (.ins A.Laid dy []))) := fun b o e => by rw [mask_upd, mask_ne (ne_of_none e ny), upd_ne (ne_of_none e ndy)]; exact e
  refine ⟨y, dy, .ref p4, l5, n, ts, os, rfl, upd_same, ⟨((web_mk h46 h36 dl6).mono e7).mono z0, z0 _ _ (e7 _ _ h56), win, oin, fun z => (nw z).elim, fun _ z => (no z).elim⟩, fun _ _ pb H8 hpb em8 hB0 => ⟨rfl, ?_⟩⟩
  have e8 : Same H7 H8 := (z0m.trans em8).trans mask2_same
  have hB7 : LaidAt Z0 A.Laid (NewT H7 H8) y pb n ts os [] := hB0.later (newT_later z0m)
  have e68 := e7.trans e8
  -- what was handed in is changed
  refine ⟨_, rfl, _, _, _, _, rfl, rfl, SqT.of (e68 _ _ n6), rfl, _, _, _, _, rfl, rfl, SqT.of (e68 _ _ h46), rfl, .inl ⟨rfl, _, SqL.of (e68 _ _ h36)⟩, (by show 3 ≤ sizeLine; decide), fun t9 ht9 => ?_⟩
  obtain ⟨s9, n9⟩ := new_pair (o := .tup [V.int 0, V.int 0, V.int 0]) ht9
  refine ⟨l3, xs, _, rfl, rfl, s9 _ _ (e68 _ _ h36), (by rw [hlen, sizeLine_eq]; omega), ?_⟩
  have l35 : l5 ≠ l3 := (ne_of_none (s4 _ _ n3) hl5).symm
  have n63 : p6 ≠ l3 := fun z => by have := n6; rw [z, h36] at this; cases this
  have n65 : p6 ≠ l5 := fun z => by have := n6; rw [z, h56] at this; cases this
  have h569 := s9 _ _ (e68 _ _ h56)
  refine ⟨_, rfl, _, _, _, _, rfl, rfl, SqT.of ((upd_ne n63).trans (s9 _ _ (e68 _ _ n6))), rfl, .inl ⟨rfl, _, SqL.of ((upd_ne l35).trans h569)⟩, l5, os.map V.int, _, rfl, rfl, (upd_ne l35).trans h569, (by rw [List.length_map, sizeLine_eq]; omega), ?_⟩
  have k9 : ∀ b o, H8 b = some o → b ≠ l3 → b ≠ l5 → upd (upd (upd H8 t9 (HO.tup [V.int 0, V.int 0, V.int 0])) l3 (HO.lst (xs ++ [V.ref t9]))) l5 (HO.lst (os.map V.int ++ [V.int 0])) b = some o := fun b o h h3 h5 => by
    rw [upd_ne h5, upd_ne h3]
    exact s9 _ _ h
  generalize upd (upd (upd H8 t9 (HO.tup [V.int 0, V.int 0, V.int 0])) l3 (HO.lst (xs ++ [V.ref t9]))) l5 (HO.lst (os.map V.int ++ [V.int 0])) = H9 at k9 ⊢
  have hl3t : ∀ b, (H6 b = none ∨ ∃ zs, H6 b = some (.tup zs)) → b ≠ l3 ∧ b ≠ l5 := fun b hb => by
    constructor
    · rintro rfl
      rw [h36] at hb
      rcases hb with hb | ⟨zs, hb⟩ <;> cases hb
    · rintro rfl
      rw [h56] at hb
      rcases hb with hb | ⟨zs, hb⟩ <;> cases hb
  have f68 : Same (NewT H6 H8) H9 := fun b u hb => by
    obtain ⟨h1, h2⟩ := newT_cases hb
    exact k9 b u h1 (hl3t b h2).1 (hl3t b h2).2
  have f78 : Same (NewT H7 H8) (mask2 x pa H9) := fun b u hb => by
    obtain ⟨h1, h2⟩ := newT_cases hb
    have h3 := mask2_some (newT_mask2 hx7 hpa7 _ _ hb)
    have h4 : H6 b = none ∨ ∃ zs, H6 b = some (.tup zs) := by
      have := newT_later e7 _ _ hb
      exact (newT_cases this).2
    exact mask2_at h3.1 h3.2.1 (k9 b u h1 (hl3t b h4).1 (hl3t b h4).2)
  have f29 : Same H2 (mask2 x pa H9) := fun b u hb => by
    have h3 := mask2_some (mask2_mono e8 _ _ (E7 _ _ (s26 _ _ hb)))
    exact mask2_at h3.1 h3.2.1 (k9 b u h3.2.2 (fun z => by rw [z, hl3] at hb; cases hb) (fun z => by rw [z, l5n] at hb; cases hb))
  have hL9 : LaidAt Z0 A.Laid H9 x pa n ts os [] := (hL6.later (newT_mono e8)).later f68
  have hB9 : LaidAt Z0 A.Laid (mask2 x pa H9) y pb n ts os [] := hB7.later f78
  -- the rows
  refine ⟨_, rfl, (by show 1 ≤ sizeLine; decide), fun rl hrl => ?_⟩
  have t0 : Turn10 A.Laid H2 (upd H9 rl (.lst [V.ref ol])) x pa y pb rl n ts os os [] [V.ref ol] := turn_fresh f29 hL9 hB9 (.cons (Dat.ints (f29 _ _ hos)) .nil) ho (fun r hr => by simp at hr) hrl
  have up : ∀ {H' : Hp} {rl' : Addr}, Same H2 (mask rl' (mask2 x pa H')) → Same H2 H' := fun h => h.trans (mask_same.trans mask2_same)
  refine ⟨_, rfl, a, ns, 90, rfl, (up t0.old).seq hS2, _, _, rfl, rfl, (by show (0 : Int) < 13; decide), _, rfl, ?_⟩
  have hm0 : 0 ≤ mixI ns 90 % 13 := Int.emod_nonneg _ (by decide)
  have hm1 : mixI ns 90 % 13 < 13 := Int.emod_lt_of_pos _ (by decide)
  generalize mixI ns 90 % 13 = many at hm0 hm1 ⊢
  refine ⟨by omega, by omega, ?_⟩
  refine for_in many.toNat (fun i σ H' => ∃ (rl : Addr) (cur : List Int) (past : List (List Int)) (rx : List V) (v7 v8 v9 v10 v11 v12 : Option V), σ = [some (.ref a), some (.ref wa), some (.ref ol), some (.ref p6), some (.ref x), some (.ref y), some (.ref rl), v7, v8, v9, v10, v11, v12] ∧ Turn10 A.Laid H2 H' x pa y pb rl n ts os cur past rx ∧ past.length ≤ i)
    ⟨rl, os, [], _, none, none, none, none, none, none, rfl, t0, Nat.zero_le _⟩ (fun i σ H' hi _ => hi) (fun σ H' _ => Nat.le_refl _) ?_ ?_
  · rintro i z σ H10 H11 hi ⟨rl, cur, past, rx, v7, v8, v9, v10, v11, v12, rfl, t, hpl⟩ ⟨rfl, rfl⟩
    have o10 := up t.old
    have hcur := ordOk_of t.ord
    have hcl : cur.length ≤ 8 := by omega
    refine ⟨_, rfl, _, rfl, _, _, rfl, rfl, a, ns, _, rfl, o10.seq hS2, ?_⟩
    have hnu := mixI_nonneg ns (91 + (0 + (i : Int)))
    dsimp only
    generalize mixI ns (91 + (0 + (i : Int))) = nu at hnu ⊢
    refine one_val rfl rfl (SqT.of (o10 _ _ hwa2)) hn0 hn8 (fun one ho1 ho2 => ?_)
    refine ⟨_, rfl, _, _, rfl, rfl, ⟨by decide, by decide⟩, _, rfl, _, _, _, _, rfl, rfl, SqT.of (o10 _ _ hwa2), rfl, _, _, rfl, _, _, rfl, rfl, ?_, ?_⟩
    · show (0 : Int) < if n > 1 then n else 1
      split <;> omega
    have hoth0 : 0 ≤ nu / 128 % (if n > 1 then n else 1) := Int.emod_nonneg _ (by split <;> omega)
    have hoth1 : nu / 128 % (if n > 1 then n else 1) < 9 := by
      have z1 : nu / 128 % (if n > 1 then n else 1) < (if n > 1 then n else 1) := Int.emod_lt_of_pos _ (by split <;> omega)
      have z2 : (if n > 1 then n else 1) ≤ 8 := by split <;> omega
      omega
    dsimp only
    generalize nu / 128 % (if n > 1 then n else 1) = other at hoth0 hoth1 ⊢
    obtain ⟨dx', wa', ra', ps', hx', hpa', _⟩ := t.laid.ex
    have hZ : ∀ {Hz : Hp}, Hz rl = some (.lst rx) → ∀ z, (fun b => decide (b = rl)) z = true → Hz z ≠ none := fun h z hz y => by
      have e : z = rl := of_decide_eq_true hz
      rw [e, h] at y
      cases y
    have hok : ∀ {Hz : Hp} {Z : Addr → Bool} {c : List Int} {ps : List (List Int)}, LaidAt Z A.Laid Hz x pa n ts c ps → ordOk n c = true → LaidOk A.Laid Hz x n ts c := fun h1 h2 => ⟨⟨pa, _, h1.all⟩, hw, win, h2, ordIn_of h2 hn8⟩
    refine ⟨_, rfl, _, _, rfl, rfl, ⟨by decide, by decide⟩, _, _, rfl, rfl, (by show (0 : Int) < 4; decide), rfl, _, rfl, ite2 (fun c => ?_) (fun c => ?_)⟩
    · -- back
      have hrl' : (rx.length : Int) = past.length + 1 := by have := t.len; omega
      refine ⟨_, rfl, x, dx', _, rfl, hx', laid_no _ _ _ (by decide +kernel) (by decide +kernel) (by decide +kernel), fun b => decide (b = rl), x, pa, n, ts, cur, past, rfl, hZ t.rows, t.laid, fun hp0 => ?_, fun r p hp1 H12 hL12 e12 => ?_⟩
      · subst hp0
        refine ⟨_, rfl, _, _, rfl, .inl (SqL.of t.rows), _, _, rfl, rfl, rfl, _, rfl, iteNS (congrArg V.bl (decide_eq_false (by rw [hrl']; decide)).symm) ?_⟩
        refine ⟨_, rfl, _, rfl, _, _, rfl, .inl (SqL.of t.rows), _, _, rfl, rfl, _, _, rfl, _, rfl, rl, rx, rfl, SqL.of t.rows, fun l2 hl2 => ?_⟩
        have hcut : cutV rx none (some (if (rx.length : Int) - 1 > 1 then (rx.length : Int) - 1 else 1)) = rx := by
          rw [if_neg (by rw [hrl']; decide)]
          have := cut_take (xs := rx) (k := 1)
          rw [List.take_of_length_le (by have := t.len; simp at this; omega)] at this
          exact this
        dsimp only
        rw [hcut]
        have t2 : Turn10 A.Laid H2 (upd H11 l2 (.lst rx)) x pa y pb l2 n ts os cur [] rx := turn_fresh (t.old.trans mask_same) t.laid (t.bes.later mask_same) (t.dat.mono mask_same) t.ord t.ords hl2
        obtain ⟨ll, hll, hml⟩ := t2.last
        refine same_tail rfl rfl rfl (SqL.of t2.rows) hll (hok t2.laid t2.ord) (dw2.mono (up t2.old)) (mask2_same _ _ (mask_same _ _ hml)) hl64 (fun H' e' => ?_)
        exact ⟨l2, cur, [], rx, _, _, _, _, _, _, rfl, t2.later e', Nat.zero_le _⟩
      · subst hp1
        have m12 := mask_mono (D := rl) e12
        have hr12 : H12 rl = some (.lst rx) := (mask2_some (e12 _ _ (mask2_at t.xl.symm t.pl.symm t.rows))).2.2
        have hpn : ((p ++ [r]).length : Int) = p.length + 1 := by rw [List.length_append]; rfl
        refine ⟨_, rfl, _, _, rfl, .inl (SqL.of hr12), _, _, rfl, rfl, rfl, _, rfl, iteNS (congrArg V.bl (decide_eq_true (by rw [hrl', hpn]; omega)).symm) ?_⟩
        refine ⟨_, rfl, _, rfl, _, _, rfl, .inl (SqL.of hr12), _, _, rfl, rfl, _, _, rfl, _, rfl, rl, rx, rfl, SqL.of hr12, fun l2 hl2 => ?_⟩
        have hcut : cutV rx none (some (if (rx.length : Int) - 1 > 1 then (rx.length : Int) - 1 else 1)) = rx.take (p.length + 1) := by
          have e : (if (rx.length : Int) - 1 > 1 then (rx.length : Int) - 1 else 1) = ((p.length + 1 : Nat) : Int) := by
            rw [hrl', hpn]
            split <;> omega
          rw [e]
          exact cut_take
        dsimp only
        rw [hcut]
        have hor : ordOk n r = true := t.ords r (by simp)
        have dd := (t.dat.mono (mask_same.trans e12)).take (p.length + 1)
        rw [← List.map_take, List.take_left' (by rw [List.length_append]; rfl)] at dd
        have t2 : Turn10 A.Laid H2 (upd H12 l2 (.lst (rx.take (p.length + 1)))) x pa y pb l2 n ts os r p (rx.take (p.length + 1)) := turn_fresh ((t.old.trans mask_same).trans e12) hL12 ((t.bes.later mask_same).later e12) dd hor (fun r' hr' => t.ords r' (List.mem_append.mpr (.inl hr'))) hl2
        obtain ⟨ll, hll, hml⟩ := t2.last
        refine same_tail rfl rfl rfl (SqL.of t2.rows) hll (hok t2.laid t2.ord) (dw2.mono (up t2.old)) (mask2_same _ _ (mask_same _ _ hml)) hl64 (fun H' e' => ?_)
        refine ⟨l2, r, p, _, _, _, _, _, _, _, rfl, t2.later e', ?_⟩
        rw [List.length_append] at hpl
        have : [r].length = 1 := rfl
        omega
    · -- a deed
      refine good_val rfl rfl rfl (SqT.of (o10 _ _ hwa2)) ?_
      refine ⟨_, rfl, _, _, rfl, rfl, ⟨by decide, by decide⟩, _, _, rfl, rfl, (by show (0 : Int) < 3; decide), ?_⟩
      dsimp only
      generalize nu / 8192 % 3 = wd
      refine ⟨_, rfl, _, rfl, (by show 2 ≤ sizeLine; decide), fun q1 hq1 => ⟨_, rfl, _, rfl, (by show 2 ≤ sizeLine; decide), fun q2 hq2 => ⟨(by show 2 ≤ sizeLine; decide), fun q3 hq3 => ?_⟩⟩⟩
      obtain ⟨u1, m1⟩ := new_pair (o := .tup [V.int one, V.int other]) hq1
      obtain ⟨u2, m2⟩ := new_pair (o := .tup [V.int other, V.int one]) hq2
      obtain ⟨u3, m3⟩ := new_pair (o := .lst [V.ref q1, V.ref q2]) hq3
      have u13 := (u1.trans u2).trans u3
      obtain ⟨pv', hpv, pp, ii, jj, rfl, hpp, hij⟩ := pick2 (i := nu / 32768 % 2) (p1 := V.ref q1) (p2 := V.ref q2) (Z := fun v => ∃ (pp : Addr) (ii jj : Int), v = .ref pp ∧ upd (upd (upd H11 q1 (HO.tup [V.int one, V.int other])) q2 (HO.tup [V.int other, V.int one])) q3 (HO.lst [V.ref q1, V.ref q2]) pp = some (.tup [V.int ii, V.int jj]) ∧ ((ii = one ∧ jj = other) ∨ (ii = other ∧ jj = one))) (Int.emod_nonneg _ (by decide)) (Int.emod_lt_of_pos _ (by decide))
        ⟨q1, one, other, rfl, u3 _ _ (u2 _ _ m1), .inl ⟨rfl, rfl⟩⟩ ⟨q2, other, one, rfl, u3 _ _ m2, .inr ⟨rfl, rfl⟩⟩
      refine ⟨_, rfl, _, _, rfl, rfl, ⟨by decide, by decide⟩, _, _, rfl, rfl, (by show (0 : Int) < 2; decide), _, _, _, _, rfl, rfl, SqL.of m3, hpv, pp, _, rfl, SqT.of hpp, rfl, _, _, rfl, _, _, rfl, rfl, ?_⟩
      have t3 := t.later u13
      generalize upd (upd (upd H11 q1 (HO.tup [V.int one, V.int other])) q2 (HO.tup [V.int other, V.int one])) q3 (HO.lst [V.ref q1, V.ref q2]) = H12 at u13 t3 ⊢
      have hin : inR cur ii jj ↔ ((0 ≤ one ∧ one < n) ∧ other < n) := by
        unfold inR
        rw [hcur.1]
        rcases hij with ⟨rfl, rfl⟩ | ⟨rfl, rfl⟩ <;> omega
      refine ⟨_, rfl, _, rfl, _, rfl, _, rfl, fun b => decide (b = rl), x, pa, wd, ii, jj, n, ts, cur, past, rfl, hZ t3.rows, t3.laid, by omega, by omega, by unfold small; omega, by unfold small; omega, fun hg H13 hL13 e13 => ?_, fun hg H13 e13 => ?_⟩
      · refine ⟨(by show 2 ≤ sizeLine; decide), fun q4 hq4 => ?_⟩
        obtain ⟨u4, m4⟩ := new_pair (o := .lst [V.str "spot", V.str "ok"]) hq4
        refine ⟨_, rfl, .inr ⟨_, rfl, _, _, _, _, rfl, rfl, SqL.of m4, (by rw [decide_eq_true (hin.mp hg)]; rfl), rfl, _, rfl, iteNS rfl ?_⟩⟩
        refine ⟨_, rfl, _, rfl, iteDT (hin.mp hg) ?_⟩
        have e14 : Same (mask2 x pa H12) (mask2 x pa (upd H13 q4 (HO.lst [V.str "spot", V.str "ok"]))) := e13.trans (mask2_mono u4)
        have hL14 := hL13.later u4
        generalize upd H13 q4 (HO.lst [V.str "spot", V.str "ok"]) = H14 at e14 hL14 ⊢
        have m14 := mask_mono (D := rl) e14
        obtain ⟨ll, hll, hml⟩ := t3.last
        have hr14 : H14 rl = some (.lst rx) := (mask2_some (e14 _ _ (mask2_at t.xl.symm t.pl.symm t3.rows))).2.2
        have hml14 := mask2_same _ _ (mask_same _ _ (m14 _ _ hml))
        refine ⟨_, rfl, .inl ⟨rfl, _, SqL.of hr14⟩, _, rfl, _, rfl, _, _, _, _, rfl, rfl, SqL.of hr14, hll, _, rfl, _, rfl, _, rfl, ll, cur, wd, ii, jj, rfl, hml14, hg, by omega, fun p H15 hp e15 hp15 => ?_⟩
        have hrl' := t3.len
        refine ⟨rl, rx, _, rfl, rfl, e15 _ _ hr14, (by rw [sizeLine_eq]; omega), ?_⟩
        obtain ⟨⟨g1, g2⟩, g3, g4⟩ := hg
        have hnew : ordOk n (deedL wd cur ii.toNat jj.toNat) = true := ordOk_of_perm (deedL_perm (by omega) (by omega)) t.ord
        have prl : p ≠ rl := (ne_of_none hr14 hp).symm
        have hx14 : ∃ o, H14 x = some o := by obtain ⟨_, _, _, _, z, _⟩ := hL14.ex; exact ⟨_, z⟩
        have hpa14 : ∃ o, H14 pa = some o := by obtain ⟨_, _, _, _, _, z, _⟩ := hL14.ex; exact ⟨_, z⟩
        obtain ⟨_, hx14⟩ := hx14
        obtain ⟨_, hpa14⟩ := hpa14
        have m15 := m14.trans (mask_mono (D := rl) (mask2_mono (x := x) (p := pa) e15))
        have t5 : Turn10 A.Laid H2 (upd H15 rl (.lst (rx ++ [V.ref p]))) x pa y pb rl n ts os (deedL wd cur ii.toNat jj.toNat) (past ++ [cur]) (rx ++ [V.ref p]) := by
          refine ⟨?_, (hL14.later e15).put t.xl t.pl, t.xl, t.pl, ?_, upd_same, ?_, hnew, fun r' hr' => ?_⟩
          · rw [mask_mask2_upd]
            exact t3.old.trans m15
          · rw [mask_mask2_upd]
            exact t3.bes.later m15
          · rw [mask_mask2_upd, List.map_append]
            exact (t3.dat.mono m15).append (.cons (Dat.ints ((mask_ne prl).trans (mask2_at (ne_of_none hx14 hp).symm (ne_of_none hpa14 hp).symm hp15))) .nil)
          · rcases List.mem_append.mp hr' with z | z
            · exact t.ords r' z
            · have : r' = cur := by simpa using z
              subst this
              exact t.ord
        obtain ⟨l9, hl9, hm9⟩ := t5.last
        refine same_tail rfl rfl rfl (SqL.of t5.rows) hl9 (hok t5.laid t5.ord) (dw2.mono (up t5.old)) (mask2_same _ _ (mask_same _ _ hm9)) hl64 (fun H' e' => ?_)
        refine ⟨rl, _, _, _, _, _, _, _, _, _, rfl, t5.later e', ?_⟩
        rw [List.length_append]
        show past.length + 1 ≤ _
        omega
      · refine ⟨(by show 2 ≤ sizeLine; decide), fun q4 hq4 => ?_⟩
        obtain ⟨u4, m4⟩ := new_pair (o := .lst [V.str "spot", V.str "ok"]) hq4
        have hg' : ¬ ((0 ≤ one ∧ one < n) ∧ other < n) := fun z => hg (hin.mpr z)
        refine ⟨_, rfl, .inr ⟨_, rfl, _, _, _, _, rfl, rfl, SqL.of m4, (by rw [decide_eq_false hg']; rfl), rfl, _, rfl, iteNS rfl ?_⟩⟩
        refine ⟨_, rfl, _, rfl, iteDF hg' ?_⟩
        have t5 := t3.later (e13.trans u4)
        obtain ⟨l9, hl9, hm9⟩ := t5.last
        refine same_tail rfl rfl rfl (SqL.of t5.rows) hl9 (hok t5.laid t5.ord) (dw2.mono (up t5.old)) (mask2_same _ _ (mask_same _ _ hm9)) hl64 (fun H' e' => ?_)
        exact ⟨rl, _, _, _, _, _, _, _, _, _, rfl, t5.later e', by omega⟩
  · rintro σ H10 ⟨rl, cur, past, rx, v7, v8, v9, v10, v11, v12, rfl, t, hpl⟩
    have o10 := up t.old
    refine ⟨Nat.zero_le _, fun w1 hw1 => ⟨(by show 2 ≤ sizeLine; decide), fun w2 hw2 => ?_⟩⟩
    obtain ⟨u1, m1⟩ := new_pair (o := .lst []) hw1
    obtain ⟨u2, m2⟩ := new_pair (o := .tup [V.int 9, V.ref w1]) hw2
    have o12 := o10.trans (u1.trans u2)
    refine ⟨_, rfl, .ref w2, ol, 9, [], os, rfl, web_mk m2 (u2 _ _ m1) .nil, o12 _ _ hos, ⟨by unfold small; decide, by simp, fun t ht => by simp at ht⟩, oin, (fun z => by cases z), fun _ H13 e13 => ?_, (fun z => by cases z)⟩
    refine ⟨rfl, _, rfl, iteNS rfl ?_⟩
    have o13 := o12.trans e13
    refine ⟨_, rfl, _, rfl, (by show 1 ≤ sizeLine; decide), fun w3 hw3 => ?_⟩
    obtain ⟨u3, m3⟩ := new_pair (o := .lst [V.int 0]) hw3
    refine ⟨_, _, _, _, rfl, rfl, u3 _ _ (o13 _ _ hos), m3, (by rw [sizeLine_eq, List.length_map]; show _ + 1 ≤ _; omega), fun w4 hw4 => ?_⟩
    obtain ⟨u4, m4⟩ := new_pair (o := .lst (os.map V.int ++ [V.int 0])) hw4
    have o14 := o13.trans (u3.trans u4)
    have hbad : ordOk n (os ++ [0]) = false := by
      unfold ordOk
      rw [decide_eq_false (by rw [List.length_append]; show ¬ ((os.length + 1 : Nat) : Int) = n; omega), Bool.false_and]
    refine ⟨.ref wa, w4, n, ts, os ++ [0], rfl, dw2.mono o14, m4.trans (by rw [List.map_append]; rfl), win, ⟨by rw [List.length_append]; show os.length + 1 ≤ 1000; omega, fun k hk => ?_⟩, fun _ => hbad, fun z => (nw z).elim, fun _ H15 e15 => ⟨rfl, _, rfl, iteNS rfl ?_⟩⟩
    · rcases List.mem_append.mp hk with z | z
      · exact oin.one k z
      · have : k = 0 := by simpa using z
        subst this
        unfold small
        decide
    have o15 := o14.trans e15
    have hbes : LaidAt Z0 A.Laid H15 y pb n ts os [] := ((t.bes.later (mask_same.trans mask2_same)).later ((u1.trans u2).trans ((e13.trans (u3.trans u4)).trans e15)))
    exact ⟨_, rfl, _, rfl, _, rfl, y, .ref wa, ol, n, ts, os, rfl, ⟨⟨pb, [], hbes⟩, hw, win, ho, oin⟩, dw2.mono o15, o15 _ _ hos, hl64, fun H' _ => q H'⟩
theorem all_ok (T : Txt K mg A D) : FnOk P w K mg base (CXF P w) 12 A.law D.law ["_law_script"] (spLaw K) := by
  have G_is_whole := ok_whole (P := P) (w := w) (base := base) (k := 0) T 
  have G_is_within := ok_within (P := P) (w := w) (base := base) (k := 1) T (G_is_whole := G_is_whole.mono (by decide))
  have G_is_tie := ok_tie (P := P) (w := w) (base := base) (k := 2) T (G_is_within := G_is_within.mono (by decide))
  have G_look_ties := ok_ties (P := P) (w := w) (base := base) (k := 3) T (G_is_tie := G_is_tie.mono (by decide))
  have G_look_web := ok_web (P := P) (w := w) (base := base) (k := 4) T (G_is_within := G_is_within.mono (by decide)) (G_look_ties := G_look_ties.mono (by decide))
  have G_look_order := ok_order (P := P) (w := w) (base := base) (k := 2) T (G_is_within := G_is_within.mono (by decide))
  have G_look_both := ok_both (P := P) (w := w) (base := base) (k := 5) T (G_look_web := G_look_web.mono (by decide)) (G_look_order := G_look_order.mono (by decide))
  have G_spots_of := ok_spots (P := P) (w := w) (base := base) (k := 0) T 
  have G_lengths := ok_lengths (P := P) (w := w) (base := base) (k := 6) T (G_look_both := G_look_both.mono (by decide)) (G_spots_of := G_spots_of.mono (by decide))
  have G_gaps := ok_gaps (P := P) (w := w) (base := base) (k := 6) T (G_look_both := G_look_both.mono (by decide)) (G_spots_of := G_spots_of.mono (by decide))
  have G_longest := ok_longest (P := P) (w := w) (base := base) (k := 7) T (G_lengths := G_lengths.mono (by decide))
  have G_total := ok_total (P := P) (w := w) (base := base) (k := 7) T (G_lengths := G_lengths.mono (by decide))
  have G_look_spots := ok_look_spots (P := P) (w := w) (base := base) (k := 2) T (G_is_within := G_is_within.mono (by decide))
  have G_swapped := ok_swapped (P := P) (w := w) (base := base) (k := 0) T 
  have G_moved := ok_moved (P := P) (w := w) (base := base) (k := 0) T 
  have G_turned := ok_turned (P := P) (w := w) (base := base) (k := 0) T 
  have G_Laid_init := ok_Laid_init (P := P) (w := w) (base := base) (k := 6) T (G_look_both := G_look_both.mono (by decide))
  have G_Laid_lay := ok_Laid_lay (P := P) (w := w) (base := base) (k := 0) T 
  have G_Laid_swap := ok_Laid_swap (P := P) (w := w) (base := base) (k := 3) T (G_look_spots := G_look_spots.mono (by decide)) (G_Laid_lay := G_Laid_lay.mono (by decide)) (G_swapped := G_swapped.mono (by decide))
  have G_Laid_move := ok_Laid_move (P := P) (w := w) (base := base) (k := 3) T (G_look_spots := G_look_spots.mono (by decide)) (G_Laid_lay := G_Laid_lay.mono (by decide)) (G_moved := G_moved.mono (by decide))
  have G_Laid_turn := ok_Laid_turn (P := P) (w := w) (base := base) (k := 3) T (G_look_spots := G_look_spots.mono (by decide)) (G_Laid_lay := G_Laid_lay.mono (by decide)) (G_turned := G_turned.mono (by decide))
  have G_Laid_back := ok_Laid_back (P := P) (w := w) (base := base) (k := 0) T 
  have G_Laid_order := ok_Laid_order (P := P) (w := w) (base := base) (k := 0) T 
  have G_Laid_gaps := ok_Laid_gaps (P := P) (w := w) (base := base) (k := 7) T (G_gaps := G_gaps.mono (by decide))
  have G_Laid_longest := ok_Laid_longest (P := P) (w := w) (base := base) (k := 8) T (G_longest := G_longest.mono (by decide))
  have G_Laid_total := ok_Laid_total (P := P) (w := w) (base := base) (k := 8) T (G_total := G_total.mono (by decide))
  have G_Laid_best_swap := ok_Laid_best_swap (P := P) (w := w) (base := base) (k := 9) T (G_Laid_total := G_Laid_total.mono (by decide)) (G_total := G_total.mono (by decide)) (G_swapped := G_swapped.mono (by decide))
  have G_law_cell := ok_law_cell (P := P) (w := w) (base := base) (k := 0) T 
  have G_law_mix := ok_law_mix (P := P) (w := w) (base := base) (k := 1) T (G_law_cell := G_law_cell.mono (by decide))
  have G_law_whole := ok_law_whole (P := P) (w := w) (base := base) (k := 0) T 
  have G_law_web := ok_law_web (P := P) (w := w) (base := base) (k := 2) T (G_law_mix := G_law_mix.mono (by decide))
  have G_law_order := ok_law_order (P := P) (w := w) (base := base) (k := 2) T (G_law_mix := G_law_mix.mono (by decide))
  have G_law_lengths := ok_law_lengths (P := P) (w := w) (base := base) (k := 0) T 
  have G_law_gaps := ok_law_gaps (P := P) (w := w) (base := base) (k := 0) T 
  have G_law_measured := ok_law_measured (P := P) (w := w) (base := base) (k := 1) T (G_law_lengths := G_law_lengths.mono (by decide)) (G_law_gaps := G_law_gaps.mono (by decide))
  have G_law_refusal := ok_law_refusal (P := P) (w := w) (base := base) (k := 0) T 
  have G_law_done := ok_law_done (P := P) (w := w) (base := base) (k := 4) T (G_Laid_swap := G_Laid_swap.mono (by decide)) (G_Laid_move := G_Laid_move.mono (by decide)) (G_Laid_turn := G_Laid_turn.mono (by decide)) (G_law_refusal := G_law_refusal.mono (by decide))
  have G_law_made := ok_law_made (P := P) (w := w) (base := base) (k := 7) T (G_Laid_init := G_Laid_init.mono (by decide)) (G_law_refusal := G_law_refusal.mono (by decide))
  have G_law_deed := ok_law_deed (P := P) (w := w) (base := base) (k := 0) T 
  have G_law_best := ok_law_best (P := P) (w := w) (base := base) (k := 2) T (G_law_measured := G_law_measured.mono (by decide)) (G_law_deed := G_law_deed.mono (by decide))
  have G_law_same := ok_law_same (P := P) (w := w) (base := base) (k := 10) T (G_Laid_order := G_Laid_order.mono (by decide)) (G_Laid_gaps := G_Laid_gaps.mono (by decide)) (G_Laid_best_swap := G_Laid_best_swap.mono (by decide)) (G_Laid_longest := G_Laid_longest.mono (by decide)) (G_Laid_total := G_Laid_total.mono (by decide)) (G_law_gaps := G_law_gaps.mono (by decide)) (G_law_best := G_law_best.mono (by decide)) (G_law_measured := G_law_measured.mono (by decide)) (G_law_whole := G_law_whole.mono (by decide))
  have G_law := ok_law (P := P) (w := w) (base := base) (k := 10) T (G_law_mix := G_law_mix.mono (by decide)) (G_law_web := G_law_web.mono (by decide)) (G_law_order := G_law_order.mono (by decide)) (G_Laid_init := G_Laid_init.mono (by decide)) (G_Laid_back := G_Laid_back.mono (by decide)) (G_law_done := G_law_done.mono (by decide)) (G_law_deed := G_law_deed.mono (by decide)) (G_law_same := G_law_same.mono (by decide)) (G_law_made := G_law_made.mono (by decide))
  exact G_law
theorem walk {l : PySem.W.OpenLaw} {q : Program} {loose : List Str} {XP : (Str → Option Value) → Heap → Prop} {YP : World → Heap → Prop} {d : DefRec} {K : Params → PySem.W.Frag} (hn : l.most = some 63) (hdf : d.params.defaults = [])
    (hY : ∀ (w : World) (h : Heap), YP w h → (K w.params).In h)
    (F : ∀ (w : World) (mg : Str → Option Value) (fa : Addr) (h : Heap), (K w.params).In h → h.Ns mainGlobals mg → mg d.name = some (.ref fa) →
      ∃ fd : FuncData, (∀ (s : Shared) (u : Value), BindsTo s fd ⟨[u], []⟩ [("_law_script", u)]) ∧ ∀ base : Heap, (K w.params).In base → base.Ns mainGlobals mg → FnOk l.prog w (K w.params) mg base (CXF l.prog w) 12 fa fd ["_law_script"] (spLaw (K w.params))) :
    PySem.W.WalkO q loose XP YP l.row.toRowW d [] (fun f vs => PySem.call f vs) :=
  L2.walk_of (n := 63) (k := 12) (x := "_law_script") (CX := fun w => CXF l.prog w) (sp := fun w => spLaw (K w.params)) hn (by decide) hdf ⟨rfl, by decide, by decide, rfl⟩ hY F (fun _ _ a ns hl _ hS => ⟨a, ns, rfl, hS, hl, fun _ => rfl⟩) fun _ _ _ _ _ ⟨_, _, _, _, _, _, _, _, _, z⟩ => z
theorem given {l : PySem.W.OpenLaw} {w : World} {K : PySem.W.Frag} {mg : Str → Option Value} {fa : Addr} (hfa : mg "law" = some (.ref fa)) (h : ∃ A D, Txt K mg A D) :
    ∃ fd : FuncData, (∀ (s : Shared) (u : Value), BindsTo s fd ⟨[u], []⟩ [("_law_script", u)]) ∧ ∀ base : Heap, K.In base → base.Ns mainGlobals mg → FnOk l.prog w K mg base (CXF l.prog w) 12 fa fd ["_law_script"] (spLaw K) := by
  obtain ⟨A, D, T⟩ := h
  have e := hfa.symm.trans T.m_law
  cases e
  exact ⟨D.law, T.bl_law, fun base _ _ => all_ok T⟩
def without (ns : List Nat) (k : Nat) : List Stmt → List Stmt
  | [] => []
  | s :: r => if ns.contains k then without ns (k + 1) r else s :: without ns (k + 1) r
def view : Program := { PySem.Challenge.pw_rowlay_k10_whole_deeds with main := { PySem.Challenge.pw_rowlay_k10_whole_deeds.main with body := without [0, 7, 25, 31] 0 PySem.Challenge.pw_rowlay_k10_whole_deeds.main.body } }
theorem head {r : PySem.W.OpenRow} {q : Program} {loose : List Str} {d : DefRec} {kwd : List (Str × PySem.Expr)} {N : Nat} (H : PySem.W.Hook)
    (hl : PySem.W.LeftO r.prog q loose (fun s => PySem.W.xlAt q [] s && PySem.W.recOk r.toRowW.records s) H.obs H.val N) (hd : PySem.W.defOf q r.name = some (d, kwd))
    (ht : r.prog.theDef r.name = some (d.params, d.body, d.scope)) (hk : PySem.W.kwWritten? d.params.kwonlyargs d.params.kw_defaults = some kwd)
    (hr : (!r.writes || List.isEmpty r.records) = true) (hs : r.wellSaid = true) (hg : (PySem.W.chainsOk q && PySem.W.opensWell r.prog && (PySem.W.frees r.toRowW && r.within.isEmpty)) = true)
    (hb : r.prog.bare) (hw : r.promised) (hc : PySem.W.WalkO q loose (PySem.W.XL q []) H.says r.toRowW d kwd fun f vs => PySem.call f vs) : r.Holds :=
  PySem.W.holds_open hl H.of H.keeps (fun s e => PySem.W.xl_of s (Bool.and_eq_true_iff.mp e).1) PySem.W.XL.keeps hd ht hk (fun s e => PySem.W.recFacts_of (Bool.and_eq_true_iff.mp e).2) hr hs hg hb hw hc
end My
open PySem PySem.W PyProof.Rows
local macro_rules
  | `(tactic| o_head $H) => `(tactic| (refine My.head (q := My.view) (loose := ["gaps_webs", "longest_webs", "total_webs"]) (N := 5842) $H ?hl rfl rfl rfl rfl (by assumption) (by decide +kernel) ⟨rfl, rfl, rfl, rfl, rfl, by decide +kernel⟩ ?hw ?hc
                                       (case hl => exact My.left_of (by kernel_rfl) (by rfl) (fun s => by kernel_rfl) fun w os => by rw [PySem.W.Fast.te15663120176360888729]; kernel_rfl)))
set_option maxRecDepth 100000 in
set_option maxHeartbeats 0 in
theorem PySem.Challenge.cw_rowlay_k10_whole_deeds_holds : PySem.Challenge.rw_rowlay_k10_whole_deeds.Holds := by
  w_on; o_law; k_head; (case hw => w_witness2)
  k_fill
  refine My.walk (l := PySem.Challenge.rw_rowlay_k10_whole_deeds) rfl rfl (fun w h Y => PySem.W.kIn_of Y) ?F
  case F =>
    intro w mg fa h KX G hmg
    refine My.given hmg ?_
    refine' My.txt_mk KX G ?a_is_whole ?l_is_whole ?c_is_whole ?k_is_whole ?a_is_within ?l_is_within ?c_is_within ?k_is_within ?a_is_tie ?l_is_tie ?c_is_tie ?k_is_tie ?a_look_ties ?l_look_ties ?c_look_ties ?k_look_ties ?a_look_web ?l_look_web ?c_look_web ?k_look_web ?a_look_order ?l_look_order ?c_look_order ?k_look_order ?a_look_both ?l_look_both ?c_look_both ?k_look_both ?a_spots_of ?l_spots_of ?c_spots_of ?k_spots_of ?a_lengths ?l_lengths ?c_lengths ?k_lengths ?a_gaps ?l_gaps ?c_gaps ?k_gaps ?a_longest ?l_longest ?c_longest ?k_longest ?a_total ?l_total ?c_total ?k_total ?a_look_spots ?l_look_spots ?c_look_spots ?k_look_spots ?a_swapped ?l_swapped ?c_swapped ?k_swapped ?a_moved ?l_moved ?c_moved ?k_moved ?a_turned ?l_turned ?c_turned ?k_turned ?a_law_cell ?l_law_cell ?c_law_cell ?k_law_cell ?a_law_mix ?l_law_mix ?c_law_mix ?k_law_mix ?a_law_whole ?l_law_whole ?c_law_whole ?k_law_whole ?a_law_web ?l_law_web ?c_law_web ?k_law_web ?a_law_order ?l_law_order ?c_law_order ?k_law_order ?a_law_lengths ?l_law_lengths ?c_law_lengths ?k_law_lengths ?a_law_gaps ?l_law_gaps ?c_law_gaps ?k_law_gaps ?a_law_measured ?l_law_measured ?c_law_measured ?k_law_measured ?a_law_refusal ?l_law_refusal ?c_law_refusal ?k_law_refusal ?a_law_done ?l_law_done ?c_law_done ?k_law_done ?a_law_made ?l_law_made ?c_law_made ?k_law_made ?a_law_deed ?l_law_deed ?c_law_deed ?k_law_deed ?a_law_best ?l_law_best ?c_law_best ?k_law_best ?a_law_same ?l_law_same ?c_law_same ?k_law_same ?a_law ?l_law ?c_law ?k_law ?a_LayError ?x_LayError ?a_BadWeb ?x_BadWeb ?e1_BadWeb ?e2_BadWeb ?e3_BadWeb ?e4_BadWeb ?e5_BadWeb ?e6_BadWeb ?s_BadWeb ?v_BadWeb ?a_BadOrder ?x_BadOrder ?e1_BadOrder ?e2_BadOrder ?e3_BadOrder ?e4_BadOrder ?e5_BadOrder ?e6_BadOrder ?s_BadOrder ?v_BadOrder ?a_BadSpot ?x_BadSpot ?e1_BadSpot ?e2_BadSpot ?e3_BadSpot ?e4_BadSpot ?e5_BadSpot ?e6_BadSpot ?s_BadSpot ?v_BadSpot ?a_BadKind ?x_BadKind ?e1_BadKind ?e2_BadKind ?e3_BadKind ?e4_BadKind ?e5_BadKind ?e6_BadKind ?s_BadKind ?v_BadKind ?a_BadText ?x_BadText ?e1_BadText ?e2_BadText ?e3_BadText ?e4_BadText ?e5_BadText ?e6_BadText ?s_BadText ?v_BadText ?i_BadWeb_BadWeb ?i_BadWeb_BadOrder ?i_BadWeb_BadSpot ?i_BadWeb_BadKind ?i_BadWeb_BadText ?i_BadOrder_BadWeb ?i_BadOrder_BadOrder ?i_BadOrder_BadSpot ?i_BadOrder_BadKind ?i_BadOrder_BadText ?i_BadSpot_BadWeb ?i_BadSpot_BadOrder ?i_BadSpot_BadSpot ?i_BadSpot_BadKind ?i_BadSpot_BadText ?i_BadKind_BadWeb ?i_BadKind_BadOrder ?i_BadKind_BadSpot ?i_BadKind_BadKind ?i_BadKind_BadText ?i_BadText_BadWeb ?i_BadText_BadOrder ?i_BadText_BadSpot ?i_BadText_BadKind ?i_BadText_BadText ?g_MOST_PLACES ?g_MOST_WEIGHT ?a_gaps_webs ?a_longest_webs ?a_total_webs ?a_Laid ?a_Laid_init ?i_Laid_init ?l_Laid_init ?c_Laid_init ?k_Laid_init ?a_Laid_lay ?i_Laid_lay ?l_Laid_lay ?c_Laid_lay ?k_Laid_lay ?a_Laid_swap ?i_Laid_swap ?l_Laid_swap ?c_Laid_swap ?k_Laid_swap ?a_Laid_move ?i_Laid_move ?l_Laid_move ?c_Laid_move ?k_Laid_move ?a_Laid_turn ?i_Laid_turn ?l_Laid_turn ?c_Laid_turn ?k_Laid_turn ?a_Laid_back ?i_Laid_back ?l_Laid_back ?c_Laid_back ?k_Laid_back ?a_Laid_order ?i_Laid_order ?l_Laid_order ?c_Laid_order ?k_Laid_order ?a_Laid_gaps ?i_Laid_gaps ?l_Laid_gaps ?c_Laid_gaps ?k_Laid_gaps ?a_Laid_longest ?i_Laid_longest ?l_Laid_longest ?c_Laid_longest ?k_Laid_longest ?a_Laid_total ?i_Laid_total ?l_Laid_total ?c_Laid_total ?k_Laid_total ?a_Laid_best_swap ?i_Laid_best_swap ?l_Laid_best_swap ?c_Laid_best_swap ?k_Laid_best_swap ?pg_Laid ?hd_Laid ?po_Laid ?sa_Laid ?mk_Laid ?kc_Laid ?n_Laid_past ?n_Laid_row ?n_Laid_web ?z_abs ?z_bool ?z_enumerate ?z_int ?z_isinstance ?z_len ?z_list ?z_max ?z_min ?z_range ?z_reversed ?z_sorted ?z_sum ?z_tuple ?z_zip ?z_ValueError ?k_bool_bool ?k_bool_int ?k_bool_str ?k_bool_list ?k_bool_tuple ?k_int_bool ?k_int_int ?k_int_str ?k_int_list ?k_int_tuple ?k_str_bool ?k_str_int ?k_str_str ?k_str_list ?k_str_tuple ?k_list_bool ?k_list_int ?k_list_str ?k_list_list ?k_list_tuple ?k_tuple_bool ?k_tuple_int ?k_tuple_str ?k_tuple_list ?k_tuple_tuple
    (case a_is_whole => k_is)
    (case l_is_whole => k_is)
    (case c_is_whole => k_is)
    (case k_is_whole => k_is)
    (case a_is_within => k_is)
    (case l_is_within => k_is)
    (case c_is_within => k_is)
    (case k_is_within => k_is)
    (case a_is_tie => k_is)
    (case l_is_tie => k_is)
    (case c_is_tie => k_is)
    (case k_is_tie => k_is)
    (case a_look_ties => k_is)
    (case l_look_ties => k_is)
    (case c_look_ties => k_is)
    (case k_look_ties => k_is)
    (case a_look_web => k_is)
    (case l_look_web => k_is)
    (case c_look_web => k_is)
    (case k_look_web => k_is)
    (case a_look_order => k_is)
    (case l_look_order => k_is)
    (case c_look_order => k_is)
    (case k_look_order => k_is)
    (case a_look_both => k_is)
    (case l_look_both => k_is)
    (case c_look_both => k_is)
    (case k_look_both => k_is)
    (case a_spots_of => k_is)
    (case l_spots_of => k_is)
    (case c_spots_of => k_is)
    (case k_spots_of => k_is)
    (case a_lengths => k_is)
    (case l_lengths => k_is)
    (case c_lengths => k_is)
    (case k_lengths => k_is)
    (case a_gaps => k_is)
    (case l_gaps => k_is)
    (case c_gaps => k_is)
    (case k_gaps => k_is)
    (case a_longest => k_is)
    (case l_longest => k_is)
    (case c_longest => k_is)
    (case k_longest => k_is)
    (case a_total => k_is)
    (case l_total => k_is)
    (case c_total => k_is)
    (case k_total => k_is)
    (case a_look_spots => k_is)
    (case l_look_spots => k_is)
    (case c_look_spots => k_is)
    (case k_look_spots => k_is)
    (case a_swapped => k_is)
    (case l_swapped => k_is)
    (case c_swapped => k_is)
    (case k_swapped => k_is)
    (case a_moved => k_is)
    (case l_moved => k_is)
    (case c_moved => k_is)
    (case k_moved => k_is)
    (case a_turned => k_is)
    (case l_turned => k_is)
    (case c_turned => k_is)
    (case k_turned => k_is)
    (case a_law_cell => k_is)
    (case l_law_cell => k_is)
    (case c_law_cell => k_is)
    (case k_law_cell => k_is)
    (case a_law_mix => k_is)
    (case l_law_mix => k_is)
    (case c_law_mix => k_is)
    (case k_law_mix => k_is)
    (case a_law_whole => k_is)
    (case l_law_whole => k_is)
    (case c_law_whole => k_is)
    (case k_law_whole => k_is)
    (case a_law_web => k_is)
    (case l_law_web => k_is)
    (case c_law_web => k_is)
    (case k_law_web => k_is)
    (case a_law_order => k_is)
    (case l_law_order => k_is)
    (case c_law_order => k_is)
    (case k_law_order => k_is)
    (case a_law_lengths => k_is)
    (case l_law_lengths => k_is)
    (case c_law_lengths => k_is)
    (case k_law_lengths => k_is)
    (case a_law_gaps => k_is)
    (case l_law_gaps => k_is)
    (case c_law_gaps => k_is)
    (case k_law_gaps => k_is)
    (case a_law_measured => k_is)
    (case l_law_measured => k_is)
    (case c_law_measured => k_is)
    (case k_law_measured => k_is)
    (case a_law_refusal => k_is)
    (case l_law_refusal => k_is)
    (case c_law_refusal => k_is)
    (case k_law_refusal => k_is)
    (case a_law_done => k_is)
    (case l_law_done => k_is)
    (case c_law_done => k_is)
    (case k_law_done => k_is)
    (case a_law_made => k_is)
    (case l_law_made => k_is)
    (case c_law_made => k_is)
    (case k_law_made => k_is)
    (case a_law_deed => k_is)
    (case l_law_deed => k_is)
    (case c_law_deed => k_is)
    (case k_law_deed => k_is)
    (case a_law_best => k_is)
    (case l_law_best => k_is)
    (case c_law_best => k_is)
    (case k_law_best => k_is)
    (case a_law_same => k_is)
    (case l_law_same => k_is)
    (case c_law_same => k_is)
    (case k_law_same => k_is)
    (case a_law => k_is)
    (case l_law => k_is)
    (case c_law => k_is)
    (case k_law => k_is)
    (case a_LayError => k_is)
    (case x_LayError => k_exc)
    (case a_BadWeb => k_is)
    (case x_BadWeb => k_exc)
    (case e1_BadWeb => k_is)
    (case e2_BadWeb => k_is)
    (case e3_BadWeb => k_is)
    (case e4_BadWeb => k_is)
    (case e5_BadWeb => k_is)
    (case e6_BadWeb => k_is)
    (case s_BadWeb => k_is)
    (case v_BadWeb => kit_is)
    (case a_BadOrder => k_is)
    (case x_BadOrder => k_exc)
    (case e1_BadOrder => k_is)
    (case e2_BadOrder => k_is)
    (case e3_BadOrder => k_is)
    (case e4_BadOrder => k_is)
    (case e5_BadOrder => k_is)
    (case e6_BadOrder => k_is)
    (case s_BadOrder => k_is)
    (case v_BadOrder => kit_is)
    (case a_BadSpot => k_is)
    (case x_BadSpot => k_exc)
    (case e1_BadSpot => k_is)
    (case e2_BadSpot => k_is)
    (case e3_BadSpot => k_is)
    (case e4_BadSpot => k_is)
    (case e5_BadSpot => k_is)
    (case e6_BadSpot => k_is)
    (case s_BadSpot => k_is)
    (case v_BadSpot => kit_is)
    (case a_BadKind => k_is)
    (case x_BadKind => k_exc)
    (case e1_BadKind => k_is)
    (case e2_BadKind => k_is)
    (case e3_BadKind => k_is)
    (case e4_BadKind => k_is)
    (case e5_BadKind => k_is)
    (case e6_BadKind => k_is)
    (case s_BadKind => k_is)
    (case v_BadKind => kit_is)
    (case a_BadText => k_is)
    (case x_BadText => k_exc)
    (case e1_BadText => k_is)
    (case e2_BadText => k_is)
    (case e3_BadText => k_is)
    (case e4_BadText => k_is)
    (case e5_BadText => k_is)
    (case e6_BadText => k_is)
    (case s_BadText => k_is)
    (case v_BadText => kit_is)
    (case i_BadWeb_BadWeb => kit_is)
    (case i_BadWeb_BadOrder => kit_is)
    (case i_BadWeb_BadSpot => kit_is)
    (case i_BadWeb_BadKind => kit_is)
    (case i_BadWeb_BadText => kit_is)
    (case i_BadOrder_BadWeb => kit_is)
    (case i_BadOrder_BadOrder => kit_is)
    (case i_BadOrder_BadSpot => kit_is)
    (case i_BadOrder_BadKind => kit_is)
    (case i_BadOrder_BadText => kit_is)
    (case i_BadSpot_BadWeb => kit_is)
    (case i_BadSpot_BadOrder => kit_is)
    (case i_BadSpot_BadSpot => kit_is)
    (case i_BadSpot_BadKind => kit_is)
    (case i_BadSpot_BadText => kit_is)
    (case i_BadKind_BadWeb => kit_is)
    (case i_BadKind_BadOrder => kit_is)
    (case i_BadKind_BadSpot => kit_is)
    (case i_BadKind_BadKind => kit_is)
    (case i_BadKind_BadText => kit_is)
    (case i_BadText_BadWeb => kit_is)
    (case i_BadText_BadOrder => kit_is)
    (case i_BadText_BadSpot => kit_is)
    (case i_BadText_BadKind => kit_is)
    (case i_BadText_BadText => kit_is)
    (case g_MOST_PLACES => k_is)
    (case g_MOST_WEIGHT => k_is)
    (case a_gaps_webs => k_is)
    (case a_longest_webs => k_is)
    (case a_total_webs => k_is)
    (case a_Laid => k_is)
    (case a_Laid_init => k_is)
    (case i_Laid_init => k_is)
    (case l_Laid_init => k_is)
    (case c_Laid_init => k_is)
    (case k_Laid_init => k_is)
    (case a_Laid_lay => k_is)
    (case i_Laid_lay => k_is)
    (case l_Laid_lay => k_is)
    (case c_Laid_lay => k_is)
    (case k_Laid_lay => k_is)
    (case a_Laid_swap => k_is)
    (case i_Laid_swap => k_is)
    (case l_Laid_swap => k_is)
    (case c_Laid_swap => k_is)
    (case k_Laid_swap => k_is)
    (case a_Laid_move => k_is)
    (case i_Laid_move => k_is)
    (case l_Laid_move => k_is)
    (case c_Laid_move => k_is)
    (case k_Laid_move => k_is)
    (case a_Laid_turn => k_is)
    (case i_Laid_turn => k_is)
    (case l_Laid_turn => k_is)
    (case c_Laid_turn => k_is)
    (case k_Laid_turn => k_is)
    (case a_Laid_back => k_is)
    (case i_Laid_back => k_is)
    (case l_Laid_back => k_is)
    (case c_Laid_back => k_is)
    (case k_Laid_back => k_is)
    (case a_Laid_order => k_is)
    (case i_Laid_order => k_is)
    (case l_Laid_order => k_is)
    (case c_Laid_order => k_is)
    (case k_Laid_order => k_is)
    (case a_Laid_gaps => k_is)
    (case i_Laid_gaps => k_is)
    (case l_Laid_gaps => k_is)
    (case c_Laid_gaps => k_is)
    (case k_Laid_gaps => k_is)
    (case a_Laid_longest => k_is)
    (case i_Laid_longest => k_is)
    (case l_Laid_longest => k_is)
    (case c_Laid_longest => k_is)
    (case k_Laid_longest => k_is)
    (case a_Laid_total => k_is)
    (case i_Laid_total => k_is)
    (case l_Laid_total => k_is)
    (case c_Laid_total => k_is)
    (case k_Laid_total => k_is)
    (case a_Laid_best_swap => k_is)
    (case i_Laid_best_swap => k_is)
    (case l_Laid_best_swap => k_is)
    (case c_Laid_best_swap => k_is)
    (case k_Laid_best_swap => k_is)
    (case pg_Laid => k_is)
    (case hd_Laid => k_is)
    (case po_Laid => k_is)
    (case sa_Laid => k_is)
    (case mk_Laid => k_is)
    (case kc_Laid => k_is)
    (case n_Laid_past => k_is)
    (case n_Laid_row => k_is)
    (case n_Laid_web => k_is)
    (case z_abs => k_is)
    (case z_bool => k_is)
    (case z_enumerate => k_is)
    (case z_int => k_is)
    (case z_isinstance => k_is)
    (case z_len => k_is)
    (case z_list => k_is)
    (case z_max => k_is)
    (case z_min => k_is)
    (case z_range => k_is)
    (case z_reversed => k_is)
    (case z_sorted => k_is)
    (case z_sum => k_is)
    (case z_tuple => k_is)
    (case z_zip => k_is)
    (case z_ValueError => k_is)
    (case k_bool_bool => kit_is)
    (case k_bool_int => kit_is)
    (case k_bool_str => kit_is)
    (case k_bool_list => kit_is)
    (case k_bool_tuple => kit_is)
    (case k_int_bool => kit_is)
    (case k_int_int => kit_is)
    (case k_int_str => kit_is)
    (case k_int_list => kit_is)
    (case k_int_tuple => kit_is)
    (case k_str_bool => kit_is)
    (case k_str_int => kit_is)
    (case k_str_str => kit_is)
    (case k_str_list => kit_is)
    (case k_str_tuple => kit_is)
    (case k_list_bool => kit_is)
    (case k_list_int => kit_is)
    (case k_list_str => kit_is)
    (case k_list_list => kit_is)
    (case k_list_tuple => kit_is)
    (case k_tuple_bool => kit_is)
    (case k_tuple_int => kit_is)
    (case k_tuple_str => kit_is)
    (case k_tuple_list => kit_is)
    (case k_tuple_tuple => kit_is)
