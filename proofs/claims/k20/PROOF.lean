import PyProof.Rows.All
import Wide.All
import OpenK.AllK
import Wide.FinOn
import Lean
import PyProof.EqAt
import PyProof.EqKinds
import PyProof.TupleCall
import PyProof.PassesOwn
import PyProof.StationsW
import PySem.Challenge.RW_rowlay_k20_whole_prices
set_option Elab.async false
set_option linter.all false
set_option maxRecDepth 100000
namespace L2
open PySem PySem.Spec PyProof.Rows
abbrev Key := Sum Int Str
def keyIs : Key → Value → Bool
  | .inl k, v => Value.isInt k v
  | .inr x, v => Value.isStrOf x v
def keyH (w : World) : Key → Int
  | .inl k => hashInt k
  | .inr x => hashStr w x
theorem keyIs_shape : ∀ {k : Key} {v : Value}, keyIs k v = true → (∃ i t, k = Sum.inl i ∧ v = Value.int i t) ∨ (∃ x t, k = Sum.inr x ∧ v = Value.str x t)
  | .inl i, v, h => by
    obtain ⟨t, e⟩ := Value.isInt_shape (k := i) (v := v) h
    exact .inl ⟨i, t, rfl, e⟩
  | .inr x, v, h => by
    obtain ⟨t, e⟩ := Value.isStrOf_shape (x := x) (v := v) h
    exact .inr ⟨x, t, rfl, e⟩
theorem key_ll (a b : Int) : decide ((Sum.inl a : Key) = Sum.inl b) = (a == b) := by
  by_cases e : a = b
  · subst e; simp
  · have h : ¬ (Sum.inl a : Key) = Sum.inl b := fun q => e (Sum.inl.inj q)
    rw [decide_eq_false h]
    exact (beq_eq_false_iff_ne.mpr e).symm
theorem key_rr (a b : Str) : decide ((Sum.inr a : Key) = Sum.inr b) = decide (a = b) := by
  by_cases e : a = b
  · subst e; simp
  · have h : ¬ (Sum.inr a : Key) = Sum.inr b := fun q => e (Sum.inr.inj q)
    rw [decide_eq_false h, decide_eq_false e]
theorem key_lr (a : Int) (b : Str) : decide ((Sum.inl a : Key) = Sum.inr b) = false := decide_eq_false (fun q => nomatch q)
theorem key_rl (a : Str) (b : Int) : decide ((Sum.inr a : Key) = Sum.inl b) = false := decide_eq_false (fun q => nomatch q)
def mixKind (prog : Program) (w : World) : PySem.KeyKind prog w Key where
  is := keyIs
  hash := keyH w
  inj := fun v a b ha hb => by
    rcases keyIs_shape ha with ⟨i, t, rfl, rfl⟩ | ⟨x, t, rfl, rfl⟩
    · rcases keyIs_shape hb with ⟨j, u, rfl, e⟩ | ⟨y, u, rfl, e⟩
      · injection e with e1 _; rw [e1]
      · exact nomatch e
    · rcases keyIs_shape hb with ⟨j, u, rfl, e⟩ | ⟨y, u, rfl, e⟩
      · exact nomatch e
      · injection e with e1 _; rw [e1]
  byValue := fun k v h => by
    rcases keyIs_shape h with ⟨i, t, rfl, rfl⟩ | ⟨x, t, rfl, rfl⟩ <;> rfl
  pyHash := fun hv h => by
    rcases keyIs_shape hv with ⟨i, t, rfl, rfl⟩ | ⟨x, t, rfl, rfl⟩
    · exact wpAny_pyHash_int h
    · exact wpAny_pyHash_str h
  eqBool := fun hu hv h => by
    rcases keyIs_shape hu with ⟨i, t, rfl, rfl⟩ | ⟨x, t, rfl, rfl⟩
    · rcases keyIs_shape hv with ⟨j, u, rfl, rfl⟩ | ⟨y, u, rfl, rfl⟩
      · rw [key_ll] at h; exact wpAny_eqBool_int h
      · rw [key_lr] at h; exact SeqAt.EqAt.int_str i t y u _ _ _ _ h
    · rcases keyIs_shape hv with ⟨j, u, rfl, rfl⟩ | ⟨y, u, rfl, rfl⟩
      · rw [key_rl] at h; exact SeqAt.EqAt.str_int x t j u _ _ _ _ h
      · rw [key_rr] at h; exact wpAny_eqBool_str h
  «strs» := fun k x t v h => by
    rcases keyIs_shape h with ⟨i, u, rfl, e⟩ | ⟨y, u, rfl, e⟩
    · exact nomatch e
    · injection e with e1 _
      subst e1
      cases v <;> rfl
end L2
namespace L2
open PySem PySem.Spec PyProof.Rows
inductive V where
  | non | bl (b : Bool) | int (i : Int) | str (x : Str) | byt (b : Array UInt8) | flt (b : UInt64) | ref (a : Addr) | ty (n : String)
  deriving DecidableEq
def RelV : V → Value → Prop
  | .non, u => u = Value.none
  | .bl b, u => u = Value.bool b
  | .int i, u => ∃ t, u = Value.int i t
  | .str x, u => ∃ t, u = Value.str x t
  | .byt b, u => ∃ t, u = Value.bytes b t
  | .flt b, u => ∃ t, u = Value.float b t
  | .ref a, u => u = Value.ref a
  | .ty n, u => u = Value.type n
abbrev Vals : List V → List Value → Prop := Paired RelV
theorem Vals.length {xs : List V} {us : List Value} (r : Vals xs us) : xs.length = us.length := Paired.length r
theorem Vals.get : ∀ {xs : List V} {us : List Value} {i : Nat} {x : V}, Vals xs us → xs[i]? = some x → ∃ u, us[i]? = some u ∧ RelV x u
  | _, _, _, _, .nil, e => by simp at e
  | _, _, 0, _, .cons r _, e => by simp at e; subst e; exact ⟨_, rfl, r⟩
  | _, _, i + 1, x, .cons _ t, e => by
    obtain ⟨u, h1, h2⟩ := Vals.get (i := i) (x := x) t (by simpa using e)
    exact ⟨u, by simpa using h1, h2⟩
theorem Vals.set {x : V} {u : Value} (r : RelV x u) : ∀ {xs : List V} {us : List Value} (i : Nat), Vals xs us → Vals (xs.set i x) (us.set i u)
  | _, _, _, .nil => .nil
  | _, _, 0, .cons _ t => .cons r t
  | _, _, i + 1, .cons q t => .cons q (Vals.set r i t)
theorem Vals.append : ∀ {xs ys : List V} {us ws : List Value}, Vals xs us → Vals ys ws → Vals (xs ++ ys) (us ++ ws)
  | _, _, _, _, .nil, s => s
  | _, _, _, _, .cons r t, s => .cons r (Vals.append t s)
theorem Vals.take : ∀ {xs : List V} {us : List Value} (n : Nat), Vals xs us → Vals (xs.take n) (us.take n)
  | _, _, 0, _ => .nil
  | _, _, _ + 1, .nil => .nil
  | _, _, n + 1, .cons r t => .cons r (Vals.take n t)
theorem Vals.drop : ∀ {xs : List V} {us : List Value} (n : Nat), Vals xs us → Vals (xs.drop n) (us.drop n)
  | _, _, 0, r => r
  | _, _, _ + 1, .nil => .nil
  | _, _, n + 1, .cons _ t => Vals.drop n t
theorem Vals.none_of : ∀ {xs : List V} {us : List Value} {i : Nat}, Vals xs us → xs[i]? = none → us[i]? = none := fun {xs us i} r e => by
  have h1 := r.length
  have h2 : xs.length ≤ i := List.getElem?_eq_none_iff.mp e
  exact List.getElem?_eq_none_iff.mpr (by omega)
def RelO : Option V → Option Value → Prop
  | some v, some u => RelV v u
  | none, none => True
  | _, _ => False
def KV {κ : Type} : List (κ × V) → List (κ × Value) → Prop := Paired fun (p : κ × V) (q : κ × Value) => p.1 = q.1 ∧ RelV p.2 q.2
def kV : Key → V
  | .inl i => .int i
  | .inr x => .str x
inductive HO where
  /-- a list -/
  | lst (xs : List V)
  /-- a tuple (never changes) -/
  | tup (xs : List V)
  /-- a dict whose keys are ints and texts; one whose keys are tuples of ints and texts (the empty one is both) -/
  | dK (kvs : List (Key × V)) | dT (kvs : List (List Key × V))
  /-- a set of ints: its members, its size -/
  | set (S : Int → Bool) (n : Nat)
  /-- an instance of the class at C, its dict at dx, its attributes -/
  | ins (C dx : Addr) (fs : List (Str × V))
  /-- the dict of the instance at x -/
  | own (x : Addr)
  /-- the dict of an exception -/
  | xd (fs : List (Str × V))
  /-- a bound method, f of x -/
  | met (f x : Addr)
  /-- a range object lo, lo + 1, .. below hi -/
  | rng (lo hi : Int)
  /-- a thing that is known to the object (the script; a dict while a loop walks it): read, never written while it is so -/
  | frz (o : Obj) (u : HO)
  /-- a code object's table -/
  | tbl (ps : Array Value)
  /-- any other thing, by what is true of its one object (a def of one's own: SetO a S n := HO.ext fun h => ..) -/
  | ext (φ : Heap → Prop)
abbrev Hp := Addr → Option HO
def upd (H : Hp) (a : Addr) (o : HO) : Hp := fun b => if b = a then some o else H b
theorem upd_same {H : Hp} {a : Addr} {o : HO} : upd H a o a = some o := by unfold upd; rw [if_pos rfl]
theorem upd_ne {H : Hp} {a b : Addr} {o : HO} (h : b ≠ a) : upd H a o b = H b := by unfold upd; rw [if_neg h]
theorem ne_of_none {H : Hp} {a b : Addr} {o : HO} (h : H a = some o) (h' : H b = none) : a ≠ b := by
  intro e; subst e; rw [h] at h'; cases h'
section
variable (P : Program) (w : World)
def ObjOk (H : Hp) (h : Heap) (a : Addr) : HO → Prop
  | .lst xs => xs.length ≤ sizeLine ∧ ∃ (its : List Value) (n : Nat), Vals xs its ∧ h.get? a = some { cls := .type "list", data := .seq its.toArray n }
  | .tup xs => xs.length ≤ sizeLine ∧ ∃ its : List Value, Vals xs its ∧ IsTup h a its.toArray
  | .dK kvs => kvs.length ≤ sizeLine ∧ (a == sysModules) = false ∧ ∃ vs, KV kvs vs ∧ h.DictOf (mixKind P w) a vs
  | .dT kvs => kvs.length ≤ sizeLine ∧ (a == sysModules) = false ∧ ∃ xs : List (List Key × Addr × Value),
      Paired (fun (p : List Key × V) (q : List Key × Addr × Value) => p.1 = q.1 ∧ H q.2.1 = some (.tup (p.1.map kV)) ∧ RelV p.2 q.2.2) kvs xs ∧
      ∃ o es ep, h.get? a = some o ∧ o.ExactDict ∧ o.data = .dict es ep ∧ es.toList = xs.map (entryOfKey (tupleKind (mixKind P w))) ∧ (xs.map (·.1)).Nodup
  | .set S n => h.SetOf (intKind P w) a S n
  | .ins C dx fs => H dx = some (.own a) ∧ fs.length ≤ 1000 ∧ dx ≠ a ∧ h.get? a = some (PySem.W.instObj C dx) ∧
      ∃ mA, h.Ns1 dx mA ∧ (∀ f, RelO (fs.lookup f) (mA f)) ∧ PySem.Within mA (fs.map (·.1))
  | .own _ => ∃ o, h.get? a = some o
  | .xd fs => ∃ mA, h.Ns1 a mA ∧ ∀ f, RelO (fs.lookup f) (mA f)
  | .rng lo hi => ∃ t u v, h.get? a = some { cls := .type "range", data := .fields #[.int lo t, .int hi u, .int 1 v] }
  | .frz o u => h.get? a = some o ∧ ObjOk H h a u
  | .tbl ps => h.get? a = some { cls := .none, data := .fields ps }
  | .met f x => h.get? a = some (PySem.W.methodObj (.ref f) (.ref x))
  | .ext φ => φ h ∧ (∃ o, h.get? a = some o) ∧ ∀ h1 h2 : Heap, φ h1 → (∀ o, h1.get? a = some o → h2.get? a = some o) → φ h2
def HOk (H : Hp) (h : Heap) : Prop := ∀ a o, H a = some o → ObjOk P w H h a o
end
section
variable {P : Program} {w : World} {H H' : Hp} {h h' : Heap} {a : Addr} {o : HO}
theorem ObjOk.lt (x : ObjOk P w H h a o) : a < h.objs.size := by
  cases o with
  | lst xs => obtain ⟨_, _, _, _, e⟩ := x; exact Heap.lt_size e
  | tup xs => obtain ⟨_, _, _, p⟩ := x; exact p.lt
  | dK kvs => obtain ⟨_, _, _, _, o, _, _, e, _⟩ := x; exact Heap.lt_size e
  | dT kvs => obtain ⟨_, _, _, _, o, _, _, e, _⟩ := x; exact Heap.lt_size e
  | set S n => obtain ⟨o, _, _, _, e, _⟩ := x; exact Heap.lt_size e
  | ins C dx fs => obtain ⟨_, _, _, e, _⟩ := x; exact Heap.lt_size e
  | own y => obtain ⟨_, e⟩ := x; exact Heap.lt_size e
  | xd fs => obtain ⟨_, ⟨_, _, _, e, _⟩, _⟩ := x; exact Heap.lt_size e
  | rng lo hi => obtain ⟨_, _, _, e⟩ := x; exact Heap.lt_size e
  | frz ob u => obtain ⟨e, _⟩ := x; exact Heap.lt_size e
  | tbl ps => exact Heap.lt_size (show h.get? a = some _ from x)
  | met f y => exact Heap.lt_size (show h.get? a = some _ from x)
  | ext φ => obtain ⟨_, ⟨_, e⟩, _⟩ := x; exact Heap.lt_size e
theorem Paired.mapP {α β : Type} {F G : α → β → Prop} : ∀ {l₁ : List α} {l₂ : List β}, Paired F l₁ l₂ → (∀ a b, F a b → G a b) → Paired G l₁ l₂
  | _, _, .nil, _ => .nil
  | _, _, .cons r t, f => .cons (f _ _ r) (Paired.mapP t f)
theorem ObjOk.stay (x : ObjOk P w H h a o) (k : ∀ b u, (b = a ∨ H b = some (.own a)) → h.get? b = some u → h'.get? b = some u)
    (ho : ∀ b, H b = some (.own a) → H' b = some (.own a)) (ht : ∀ b xs, H b = some (.tup xs) → H' b = some (.tup xs)) : ObjOk P w H' h' a o := by
  induction o with
  | lst xs => obtain ⟨z, its, n, r, e⟩ := x; exact ⟨z, its, n, r, k _ _ (.inl rfl) e⟩
  | tup xs => obtain ⟨z, its, r, ob, e, c⟩ := x; exact ⟨z, its, r, ob, k _ _ (.inl rfl) e, c⟩
  | dK kvs => obtain ⟨z, y, vs, r, ob, es, ep, e, c⟩ := x; exact ⟨z, y, vs, r, ob, es, ep, k _ _ (.inl rfl) e, c⟩
  | dT kvs =>
    obtain ⟨z, y, xs, r, ob, es, ep, e, c⟩ := x
    exact ⟨z, y, xs, Paired.mapP r fun p q z => ⟨z.1, ht _ _ z.2.1, z.2.2⟩, ob, es, ep, k _ _ (.inl rfl) e, c⟩
  | set S n => obtain ⟨ob, es, ep, t, e, c⟩ := x; exact ⟨ob, es, ep, t, k _ _ (.inl rfl) e, c⟩
  | ins C dx fs =>
    obtain ⟨d, z, ne, e, mA, ⟨od, es, ep, e2, c⟩, r⟩ := x
    exact ⟨ho _ d, z, ne, k _ _ (.inl rfl) e, mA, ⟨od, es, ep, k _ _ (.inr d) e2, c⟩, r⟩
  | own y => obtain ⟨ob, e⟩ := x; exact ⟨ob, k _ _ (.inl rfl) e⟩
  | xd fs => obtain ⟨mA, ⟨od, es, ep, e, c⟩, r⟩ := x; exact ⟨mA, ⟨od, es, ep, k _ _ (.inl rfl) e, c⟩, r⟩
  | rng lo hi => obtain ⟨t, u, v, e⟩ := x; exact ⟨t, u, v, k _ _ (.inl rfl) e⟩
  | frz ob u ih => obtain ⟨e, q⟩ := x; exact ⟨k _ _ (.inl rfl) e, ih q⟩
  | tbl ps =>
    have e : h.get? a = some { cls := .none, data := .fields ps } := x
    show h'.get? a = some { cls := .none, data := .fields ps }
    exact k a _ (.inl rfl) e
  | met f y =>
    have e : h.get? a = some (PySem.W.methodObj (.ref f) (.ref y)) := x
    show h'.get? a = some (PySem.W.methodObj (.ref f) (.ref y))
    exact k a _ (.inl rfl) e
  | ext φ => obtain ⟨p, ⟨o, e⟩, st⟩ := x; exact ⟨st _ _ p fun o q => k _ _ (.inl rfl) q, ⟨o, k _ _ (.inl rfl) e⟩, st⟩
theorem HOk.lt (x : HOk P w H h) (e : H a = some o) : a < h.objs.size := (x a o e).lt
theorem HOk.fresh (x : HOk P w H h) (e : h.objs.size ≤ a) : H a = none := by
  cases q : H a with
  | none => rfl
  | some u => exact absurd (Nat.lt_of_lt_of_le (x.lt q) e) (Nat.lt_irrefl _)
theorem HOk.kept (x : HOk P w H h) (k : ∀ b u, h.get? b = some u → h'.get? b = some u) : HOk P w H h' := fun a o e =>
  (x a o e).stay (fun b u _ q => k b u q) (fun _ q => q) fun _ _ q => q
theorem HOk.laid (x : HOk P w H h) (k : ∀ b u, h.get? b = some u → h'.get? b = some u) (hp : h.objs.size ≤ a) (new : ObjOk P w (upd H a o) h' a o) : HOk P w (upd H a o) h' := fun b u e => by
  have hn := x.fresh hp
  by_cases hb : b = a
  · subst hb; rw [upd_same] at e; cases e; exact new
  · rw [upd_ne hb] at e
    exact (x b u e).stay (fun c v _ q => k c v q) (fun c q => by rw [upd_ne (ne_of_none q hn)]; exact q) fun c xs q => by rw [upd_ne (ne_of_none q hn)]; exact q
end
def Rd (H : Hp) (a : Addr) (u : HO) : Prop := H a = some u ∨ ∃ o, H a = some (.frz o u)
theorem Rd.of {H : Hp} {a : Addr} {u : HO} (h : H a = some u) : Rd H a u := .inl h
theorem Rd.ok {P : Program} {w : World} {H : Hp} {h : Heap} {a : Addr} {u : HO} (r : Rd H a u) (x : HOk P w H h) : ObjOk P w H h a u := by
  rcases r with r | ⟨o, r⟩
  · exact x a u r
  · obtain ⟨_, q⟩ := x a _ r
    exact q
def Mut : Option HO → Prop
  | some (.lst _) => True
  | some (.dK _) => True
  | some (.dT _) => True
  | some (.set _ _) => True
  | some (.ins _ _ _) => True
  | some (.ext _) => True
  | _ => False
section
variable {P : Program} {w : World} {H : Hp} {h h' : Heap} {x e : Addr} {o' : HO}
theorem HOk.write (ok : HOk P w H h) (mu : Mut (H x)) (he : e = x ∨ H e = some (.own x)) (k : ∀ b u, b ≠ e → h.get? b = some u → h'.get? b = some u) (heo : ∃ u, h'.get? e = some u)
    (new : ObjOk P w (upd H x o') h' x o') : HOk P w (upd H x o') h' := fun b u q => by
  have nown : ∀ c y, H c = some (.own y) → c ≠ x := fun c y r z => by subst z; rw [r] at mu; exact mu
  have ntup : ∀ c xs, H c = some (.tup xs) → c ≠ x := fun c xs r z => by subst z; rw [r] at mu; exact mu
  by_cases hb : b = x
  · subst hb; rw [upd_same] at q; cases q; exact new
  · rw [upd_ne hb] at q
    by_cases hbe : b = e
    · have q' : H b = some (.own x) := by
        rcases he with z | z
        · exact absurd (hbe.trans z) hb
        · rw [hbe]; exact z
      rw [q] at q'; cases q'
      obtain ⟨v, hv⟩ := heo
      exact ⟨v, by rw [hbe]; exact hv⟩
    · refine (ok b u q).stay (fun c v hc r => k c v ?_ r) (fun c r => by rw [upd_ne (nown c b r)]; exact r) fun c xs r => by rw [upd_ne (ntup c xs r)]; exact r
      rcases hc with rfl | hc
      · exact hbe
      · rintro rfl
        rcases he with z | z
        · exact nown c b hc z
        · rw [hc] at z; cases z; exact hb rfl
end
structure Un (fs ex : List Addr) (H H' : Hp) (h h' : Heap) : Prop where
  keep : ∀ b o, h.get? b = some o → H b = none → b ∉ fs → b ∉ ex → h'.get? b = some o
  slot : ∀ b o, h.get? b = some o → H b = none → b ∈ fs → b ∉ ex → ∃ sl, h'.get? b = some { o with slots := sl }
  free : ∀ b o, h.get? b = some o → H b = none → b ∉ ex → H' b = none
  there : ∀ b o, h.get? b = some o → b ∉ ex → ∃ o', h'.get? b = some o'
  tups : ∀ b xs, H b = some (.tup xs) → H' b = some (.tup xs)
  frzs : ∀ b o u, H b = some (.frz o u) → H' b = some (.frz o u)
  tbls : ∀ b ps, H b = some (.tbl ps) → ∃ more, H' b = some (.tbl (ps ++ more))
section
variable {fs fs' ex ex' : List Addr} {H H1 H2 : Hp} {h h1 h2 h' : Heap} {a x e : Addr} {o : HO}
theorem Un.any (u : Un fs ex H H1 h h1) {b : Addr} {ob : Obj} (q : h.get? b = some ob) (n : H b = none) (hx : b ∉ ex) : ∃ sl, h1.get? b = some { ob with slots := sl } := by
  by_cases hb : b ∈ fs
  · exact u.slot b ob q n hb hx
  · exact ⟨ob.slots, u.keep b ob q n hb hx⟩
theorem Un.trans (a : Un fs ex H H1 h h1) (b : Un fs ex H1 H2 h1 h2) : Un fs ex H H2 h h2 where
  keep := fun c ob q n hc hx => b.keep c ob (a.keep c ob q n hc hx) (a.free c ob q n hx) hc hx
  slot := fun c ob q n hc hx => by
    obtain ⟨sl, e1⟩ := a.slot c ob q n hc hx
    obtain ⟨sl', e2⟩ := b.slot c _ e1 (a.free c ob q n hx) hc hx
    exact ⟨sl', e2⟩
  free := fun c ob q n hx => by
    obtain ⟨o', e1⟩ := a.there c ob q hx
    exact b.free c o' e1 (a.free c ob q n hx) hx
  there := fun c ob q hx => by
    obtain ⟨o', e1⟩ := a.there c ob q hx
    exact b.there c o' e1 hx
  tups := fun c xs q => b.tups c xs (a.tups c xs q)
  frzs := fun c ob xs q => b.frzs c ob xs (a.frzs c ob xs q)
  tbls := fun c ps q => by
    obtain ⟨m1, e1⟩ := a.tbls c ps q
    obtain ⟨m2, e2⟩ := b.tbls c _ e1
    exact ⟨m1 ++ m2, by rw [e2, Array.append_assoc]⟩
theorem Un.kept (k : ∀ b u, h.get? b = some u → h'.get? b = some u) : Un fs ex H H h h' :=
  ⟨fun b ob q _ _ _ => k b ob q, fun b ob q _ _ _ => ⟨ob.slots, k b ob q⟩, fun _ _ _ n _ => n, fun b ob q _ => ⟨ob, k b ob q⟩, fun _ _ q => q, fun _ _ _ q => q, fun _ ps q => ⟨#[], by rw [q]; simp⟩⟩
theorem Un.refl : Un fs ex H H h h := Un.kept fun _ _ q => q
theorem Un.laid (k : ∀ b u, h.get? b = some u → h'.get? b = some u) (hp : h.objs.size ≤ a) (hn : H a = none) : Un fs ex H (upd H a o) h h' where
  keep := fun b u q _ _ _ => k b u q
  slot := fun b u q _ _ _ => ⟨u.slots, k b u q⟩
  free := fun b u q n _ => by rw [upd_ne (Nat.ne_of_lt (Nat.lt_of_lt_of_le (Heap.lt_size q) hp))]; exact n
  there := fun b u q _ => ⟨u, k b u q⟩
  tups := fun b xs q => by rw [upd_ne (ne_of_none q hn)]; exact q
  frzs := fun b u xs q => by rw [upd_ne (ne_of_none q hn)]; exact q
  tbls := fun b ps q => ⟨#[], by rw [upd_ne (ne_of_none q hn), q]; simp⟩
theorem Un.write (mu : Mut (H x)) (he : e = x ∨ H e = some (.own x)) (k : ∀ b u, b ≠ e → h.get? b = some u → h'.get? b = some u) (heo : ∃ u, h'.get? e = some u) : Un fs ex H (upd H x o) h h' := by
  have hx : ∀ b, H b = none → b ≠ x := fun b n z => by subst z; rw [n] at mu; exact mu
  have hb : ∀ b, H b = none → b ≠ e := fun b n z => by
    subst z
    rcases he with r | r
    · exact hx b n r
    · rw [n] at r; cases r
  have hm : ∀ b u, H b = some u → ¬ Mut (some u) → b ≠ x := fun b u q nm z => by subst z; rw [q] at mu; exact nm mu
  refine ⟨fun b u q n _ _ => k b u (hb b n) q, fun b u q n _ _ => ⟨u.slots, k b u (hb b n) q⟩, fun b u q n _ => by rw [upd_ne (hx b n)]; exact n, fun b u q _ => ?_,
    fun b xs q => by rw [upd_ne (hm b _ q fun z => z)]; exact q, fun b u xs q => by rw [upd_ne (hm b _ q fun z => z)]; exact q, fun b ps q => ⟨#[], by rw [upd_ne (hm b _ q fun z => z), q]; simp⟩⟩
  by_cases hbe : b = e
  · subst hbe; exact heo
  · exact ⟨u, k b u hbe q⟩
theorem Un.mono (u : Un fs ex H H1 h h1) (hs : ∀ b ∈ fs, b ∈ fs') (hx : ∀ b ∈ ex, b ∈ ex') : Un fs' ex' H H1 h h1 :=
  ⟨fun b ob q n hb he => u.keep b ob q n (fun z => hb (hs b z)) fun z => he (hx b z), fun _ _ q n _ he => u.any q n fun z => he (hx _ z), fun b ob q n he => u.free b ob q n fun z => he (hx b z), fun b ob q he => u.there b ob q fun z => he (hx b z), u.tups, u.frzs, u.tbls⟩
end
def trk (h : Heap) (H : Hp) : List Addr := (List.range h.objs.size).filter fun a => (H a).isSome
def hidT (h : Heap) (H : Hp) : Heap := PySem.W.hideAll h (trk h H)
theorem hidT_size (h : Heap) (H : Hp) : (hidT h H).objs.size = h.objs.size := PySem.W.hideAll_size _ _
theorem hidT_get {h : Heap} {H : Hp} {b : Addr} {o : Obj} (e : h.get? b = some o) (n : H b = none) : (hidT h H).get? b = some o :=
  PySem.W.hideAll_get _ e fun hm => by
    have q : (H b).isSome = true := (List.mem_filter.mp hm).2
    rw [n] at q; simp at q
theorem of_hidT {h : Heap} {H : Hp} {b : Addr} {o : Obj} (e : (hidT h H).get? b = some o) : h.get? b = some o ∧ H b = none := by
  have e' : h.get? b = some o := PySem.W.of_hideAll (trk h H) e
  refine ⟨e', ?_⟩
  cases q : H b with
  | none => rfl
  | some x =>
    have hm : b ∈ trk h H := List.mem_filter.mpr ⟨List.mem_range.mpr (Heap.lt_size e'), by simp [q]⟩
    have z : (hidT h H).get? b = none := PySem.W.hideAll_none (trk h H) hm
    rw [z] at e; cases e
def allNews (g h : Heap) (L : Addr) : List (Addr × Obj) := (List.range h.objs.size).filterMap fun a => if a = L ∨ (g.get? a).isSome = true then none else (h.get? a).map fun o => (a, o)
def rest (g h : Heap) (L d : Addr) : List (Addr × Obj) := (allNews g h L).filter fun p => decide (p.1 ≠ d)
end L2
namespace L2
open PySem PySem.Spec PyProof.Rows
structure Mod (K : PySem.W.Frag) (mg : Str → Option Value) (base : Heap) : Prop where
  kin : K.In base
  glob : base.Ns mainGlobals mg
  blt : ∃ mb, base.Ns builtinsNs mb ∧ ∀ x : Str, x ≠ "__name__" → mb x = bootBuiltins x
  nolimit : base.NoLimit
structure Cx where
  prog : Program
  w : World
  K : PySem.W.Frag
  mg : Str → Option Value
  base : Heap
  A : Around
  N : List Str
  s₀ : Shared
  H₀ : Hp
  env : Env
  outer : List Env
  stack : List Env
  ex : List Addr
  fn : Str → Bool
  calm : Bool
  pn : List (Addr × Obj)
  xe : Value → Shared → Prop
def frs (l : List Env) : List Addr := l.filterMap (·.frame)
abbrev Cx.fs (X : Cx) : List Addr := frs X.outer
def Vis (sc : Scope) (x : Str) : Prop := sc.names.lookup x = some .local ∨ sc.names.lookup x = some .cell ∨ sc.names.lookup x = some .free
def Loc (sc : Scope) (x : Str) : Prop := sc.names.lookup x = some .local ∨ sc.names.lookup x = some .cell
def Look (env : Env) (h : Heap) (m : Str → Option Value) (x : Str) (u : Value) : Prop :=
  (env.kindOf x = some .local ∧ m x = some u) ∨ ((env.kindOf x = some .cell ∨ env.kindOf x = some .free) ∧ ∃ c, env.cells.lookup x = some c ∧ h.IsCell c (some u))
structure Cx.Ok (X : Cx) : Prop where
  mod : Mod X.K X.mg X.base
  kind : X.env.scope.kind = .function
  glob : X.env.globals = mainGlobals
  blt : X.env.builtins = builtinsNs
  above : X.s₀.heap.objs.size ≤ X.env.locals
  inj : ∀ x y c, X.env.cells.lookup x = some c → X.env.cells.lookup y = some c → x = y
  has : ∀ x, (X.env.kindOf x = some .cell ∨ X.env.kindOf x = some .free) → ∃ c, X.env.cells.lookup x = some c
  cab : ∀ x c, X.fn x = true → X.env.cells.lookup x = some c → X.s₀.heap.objs.size ≤ c
  hd : X.calm = true → X.A.handled = none
  frames : X.A.frames = some X.stack
  stk : X.stack = X.outer ∨ (X.stack = X.env :: X.outer ∧ X.env.frame = some X.env.locals)
  exf : ∀ b ∈ X.ex, b ≠ X.env.locals ∧ ∀ x c, X.env.cells.lookup x = some c → c ≠ b
  bs : ∀ b o, X.base.get? b = some o → X.s₀.heap.get? b = some o ∧ X.H₀ b = none
  bsz : X.base.objs.size ≤ X.s₀.heap.objs.size
  noex : ∀ b o, X.base.get? b = some o → b ∉ X.ex
  exfs : ∀ b ∈ X.ex, b ∉ X.fs
  funs : X.s₀.heap.FunFrames X.base X.outer
  frf : ∀ b ∈ X.fs, X.H₀ b = none
structure Inv (X : Cx) (pins : List (Addr × Obj)) (σ : List (Option V)) (H : Hp) (s : Shared) : Prop where
  ok : X.Ok
  os : s.os = X.s₀.os
  bare : AllBare s.gens
  base : Un X.fs X.ex X.H₀ H X.s₀.heap s.heap
  loc : ∃ m, s.heap.Ns X.env.locals m ∧ ∀ (i : Nat) (x : Str) (v : V), X.N[i]? = some x → σ[i]? = some (some v) → Vis X.env.scope x → ∃ u, RelV v u ∧ Look X.env s.heap m x u
  cell : ∀ x c, X.env.cells.lookup x = some c → ∃ v, s.heap.IsCell c v
  free : H X.env.locals = none
  freeC : ∀ x c, X.env.cells.lookup x = some c → H c = none
  pin : ∀ p ∈ X.pn ++ pins, s.heap.get? p.1 = some p.2 ∧ H p.1 = none ∧ p.1 ≠ X.env.locals ∧ p.1 ∉ X.fs ∧ ∀ v, p.2.data ≠ .cell v
  hok : HOk X.prog X.w H s.heap
  len : σ.length = X.N.length
section
variable {X : Cx} {pins : List (Addr × Obj)} {σ : List (Option V)} {H H' : Hp} {s : Shared} {h' : Heap}
theorem Cx.Ok.nofr (ok : X.Ok) {b : Addr} {o : Obj} (e : X.base.get? b = some o) : b ∉ X.fs := fun hb => by
  have := (ok.funs.mem hb).1
  rw [e] at this; cases this
theorem Inv.bs (I : Inv X pins σ H s) : ∀ b o, X.base.get? b = some o → s.heap.get? b = some o ∧ H b = none := fun b o e =>
  ⟨I.base.keep b o (I.ok.bs b o e).1 (I.ok.bs b o e).2 (I.ok.nofr e) (I.ok.noex b o e), I.base.free b o (I.ok.bs b o e).1 (I.ok.bs b o e).2 (I.ok.noex b o e)⟩
theorem Inv.bk (I : Inv X pins σ H s) : ∀ b o, X.base.get? b = some o → s.heap.get? b = some o := fun b o e => (I.bs b o e).1
theorem Inv.mod (I : Inv X pins σ H s) : Mod X.K X.mg X.base := I.ok.mod
theorem Inv.kIn (I : Inv X pins σ H s) : X.K.In s.heap := I.ok.mod.kin.keeps I.bk
theorem Inv.nolimit (I : Inv X pins σ H s) : s.heap.NoLimit := I.ok.mod.nolimit.keeps I.bk
theorem Inv.fr (I : Inv X pins σ H s) : ∃ m, Fr X.base X.env.locals s.heap m :=
  let ⟨m, hn, _⟩ := I.loc
  ⟨m, hn, I.bk, Nat.le_trans I.ok.bsz I.ok.above⟩
theorem Inv.lt (I : Inv X pins σ H s) : X.env.locals < s.heap.objs.size := let ⟨_, hn, _⟩ := I.loc; hn.lt
theorem Inv.sz (I : Inv X pins σ H s) : X.s₀.heap.objs.size ≤ s.heap.objs.size := Nat.le_trans I.ok.above (Nat.le_of_lt I.lt)
theorem Inv.nofs (I : Inv X pins σ H s) {a : Addr} (h : s.heap.objs.size ≤ a) : a ∉ X.fs := fun hb => by
  obtain ⟨_, o, ho, _⟩ := I.ok.funs.mem hb
  exact absurd (Nat.lt_of_lt_of_le (Heap.lt_size ho) (Nat.le_trans I.sz h)) (Nat.lt_irrefl _)
theorem Inv.cne (I : Inv X pins σ H s) : ∀ x c, X.env.cells.lookup x = some c → c ≠ X.env.locals := fun x c e z => by
  obtain ⟨v, o, ho, hd⟩ := I.cell x c e
  obtain ⟨m, ⟨o', es, ep, ho', hd', _⟩, _⟩ := I.loc
  rw [z, ho'] at ho; cases ho; rw [hd'] at hd; cases hd
theorem Inv.funs (I : Inv X pins σ H s) : s.heap.FunFrames X.base X.outer := by
  have all : ∀ (l : List Env), (∀ b ∈ frs l, b ∈ X.fs) → X.s₀.heap.FunFrames X.base l → s.heap.FunFrames X.base l := by
    intro l
    induction l with
    | nil => intro _ _; trivial
    | cons env r ih =>
      intro hs hl
      obtain ⟨hk, ⟨L, o, hf, hn, ho, hd⟩, hr⟩ := hl
      have hL : L ∈ X.fs := hs L (by unfold frs; rw [List.filterMap_cons, hf]; exact List.mem_cons_self)
      obtain ⟨sl, e⟩ := I.base.slot L o ho (I.ok.frf L hL) hL fun z => I.ok.exfs L z hL
      exact ⟨hk, ⟨L, _, hf, hn, e, hd⟩, ih (fun b hb => hs b (by unfold frs; rw [List.filterMap_cons, hf]; exact List.mem_cons_of_mem _ hb)) hr⟩
  exact all X.outer (fun _ hb => hb) I.ok.funs
theorem Inv.stack (I : Inv X pins σ H s) : s.heap.FunFrames X.base X.stack := by
  rcases I.ok.stk with e | ⟨e, hf⟩
  · rw [e]; exact I.funs
  · rw [e]
    obtain ⟨m, hn, _⟩ := I.loc
    refine .cons (by rw [I.ok.kind]; decide) hf hn ?_ I.funs
    exact Heap.get?_none_of_le (Nat.le_trans I.ok.bsz I.ok.above)
theorem Inv.stkSub (I : Inv X pins σ H s) : ∀ b ∈ frs X.stack, b ∈ X.env.locals :: X.fs := fun b hb => by
  rcases I.ok.stk with e | ⟨e, hf⟩
  · rw [e] at hb; exact List.mem_cons_of_mem _ hb
  · rw [e] at hb
    unfold frs at hb
    rw [List.filterMap_cons, hf] at hb
    exact hb
theorem Inv.stkFree (I : Inv X pins σ H s) : ∀ b ∈ frs X.stack, H b = none := fun b hb => by
  rcases List.mem_cons.mp (I.stkSub b hb) with e | hb
  · rw [e]; exact I.free
  · obtain ⟨_, o, ho, _⟩ := I.ok.funs.mem hb
    exact I.base.free b o ho (I.ok.frf b hb) fun z => I.ok.exfs b z hb
theorem Inv.step {g' : Array GenState} {t' : Nat} {d' : Drawn} {ch : List Addr} (I : Inv X pins σ H s)
    (hch : ∀ b ∈ ch, (b ∈ X.ex ∨ X.s₀.heap.objs.size ≤ b) ∧ b ≠ X.env.locals ∧ (∀ x c, X.env.cells.lookup x = some c → c ≠ b) ∧ ∀ p ∈ X.pn ++ pins, p.1 ≠ b)
    (keep : ∀ b o, b ≠ X.env.locals → b ∉ X.fs → b ∉ ch → s.heap.get? b = some o → H b = none → h'.get? b = some o)
    (slot : ∀ b o, b ≠ X.env.locals → b ∈ X.fs → b ∉ ch → s.heap.get? b = some o → H b = none → ∃ sl, h'.get? b = some { o with slots := sl }) (free : ∀ b o, b ∉ ch → s.heap.get? b = some o → H b = none → H' b = none)
    (there : ∀ b o, b ∉ ch → s.heap.get? b = some o → ∃ o', h'.get? b = some o')
    (tups : ∀ b xs, H b = some (.tup xs) → H' b = some (.tup xs)) (frzs : ∀ b o u, H b = some (.frz o u) → H' b = some (.frz o u)) (tbls : ∀ b ps, H b = some (.tbl ps) → ∃ more, H' b = some (.tbl (ps ++ more)))
    (ns : ∀ m, s.heap.Ns X.env.locals m → h'.Ns X.env.locals m) (hok : HOk X.prog X.w H' h') (hg : AllBare g') :
    Inv X pins σ H' { s with heap := h', gens := g', drawn := d', toks := t' } := by
  have neL : ∀ b o, X.s₀.heap.get? b = some o → b ≠ X.env.locals := fun b o e => Nat.ne_of_lt (Nat.lt_of_lt_of_le (Heap.lt_size e) I.ok.above)
  have neC : ∀ b o, X.s₀.heap.get? b = some o → b ∉ X.ex → b ∉ ch := fun b o e hx hb => by
    rcases (hch b hb).1 with z | z
    · exact hx z
    · exact absurd (Nat.lt_of_lt_of_le (Heap.lt_size e) z) (Nat.lt_irrefl _)
  have cellK : ∀ x c, X.env.cells.lookup x = some c → ∀ v, s.heap.IsCell c v → h'.IsCell c v := fun x c e v ⟨o, ho, hd⟩ => by
    have nch : c ∉ ch := fun z => (hch c z).2.2.1 x c e rfl
    by_cases hc : c ∈ X.fs
    · obtain ⟨sl, q⟩ := slot c o (I.cne x c e) hc nch ho (I.freeC x c e)
      exact ⟨_, q, hd⟩
    · exact ⟨o, keep c o (I.cne x c e) hc nch ho (I.freeC x c e), hd⟩
  refine ⟨I.ok, I.os, hg, ⟨fun b o e n hb hx => ?_, fun b o e n hb hx => ?_, fun b o e n hx => ?_, fun b o e hx => ?_, fun b xs e => tups b xs (I.base.tups b xs e), fun b o xs e => frzs b o xs (I.base.frzs b o xs e), fun b ps e => ?_⟩, ?_, fun x c e => ?_, ?_, fun x c e => ?_, fun p hp => ?_, hok, I.len⟩
  · exact keep b o (neL b o e) hb (neC b o e hx) (I.base.keep b o e n hb hx) (I.base.free b o e n hx)
  · obtain ⟨sl, e1⟩ := I.base.slot b o e n hb hx
    obtain ⟨sl', e2⟩ := slot b _ (neL b o e) hb (neC b o e hx) e1 (I.base.free b o e n hx)
    exact ⟨sl', e2⟩
  · obtain ⟨o', e1⟩ := I.base.there b o e hx
    exact free b o' (neC b o e hx) e1 (I.base.free b o e n hx)
  · obtain ⟨o', e1⟩ := I.base.there b o e hx
    exact there b o' (neC b o e hx) e1
  · obtain ⟨m1, e1⟩ := I.base.tbls b ps e
    obtain ⟨m2, e2⟩ := tbls b _ e1
    exact ⟨m1 ++ m2, by rw [e2, Array.append_assoc]⟩
  · obtain ⟨m, hn, hl⟩ := I.loc
    refine ⟨m, ns m hn, fun i x v e1 e2 e3 => ?_⟩
    obtain ⟨u, r, l⟩ := hl i x v e1 e2 e3
    refine ⟨u, r, ?_⟩
    rcases l with l | ⟨k, c, e, z⟩
    · exact .inl l
    · exact .inr ⟨k, c, e, cellK x c e _ z⟩
  · obtain ⟨v, z⟩ := I.cell x c e
    exact ⟨v, cellK x c e v z⟩
  · obtain ⟨m, ⟨o, _, _, ho, _⟩, _⟩ := I.loc
    exact free _ o (fun z => (hch _ z).2.1 rfl) ho I.free
  · obtain ⟨v, o, ho, hd⟩ := I.cell x c e
    exact free c o (fun z => (hch c z).2.2.1 x c e rfl) ho (I.freeC x c e)
  · obtain ⟨e, n, ne, nf, d⟩ := I.pin p hp
    have nch : p.1 ∉ ch := fun z => (hch p.1 z).2.2.2 p hp rfl
    exact ⟨keep p.1 p.2 ne nf nch e n, free p.1 p.2 nch e n, ne, nf, d⟩
theorem Inv.un {t' : Nat} (I : Inv X pins σ H s) (u : Un X.fs [] H H' s.heap h') (hok : HOk X.prog X.w H' h') : Inv X pins σ H' { s with heap := h', toks := t' } := by
  obtain ⟨m, ⟨o, es, ep, ho, r⟩, _⟩ := id I.loc
  obtain ⟨sl, hL⟩ := u.any ho I.free (by simp)
  exact I.step (g' := s.gens) (d' := s.drawn) (ch := []) (fun _ z => nomatch z) (fun b o _ hb _ e n => u.keep b o e n hb (by simp)) (fun b o _ hb _ e n => u.slot b o e n hb (by simp)) (fun b o _ e n => u.free b o e n (by simp)) (fun b o _ e => u.there b o e (by simp)) u.tups u.frzs u.tbls (fun m' hm => by
    obtain ⟨o', es', ep', ho', r'⟩ := hm
    rw [ho] at ho'; cases ho'
    exact ⟨_, es', ep', hL, r'⟩) hok I.bare
theorem Inv.call {g' : Array GenState} {t' : Nat} {d' : Drawn} {ch : List Addr} (I : Inv X pins σ H s) (u : Un (frs X.stack) ch H H' s.heap h') (hok : HOk X.prog X.w H' h') (hg : AllBare g')
    (hch : ∀ b ∈ ch, (b ∈ X.ex ∨ X.s₀.heap.objs.size ≤ b) ∧ b ≠ X.env.locals ∧ (∀ x c, X.env.cells.lookup x = some c → c ≠ b) ∧ ∀ p ∈ X.pn ++ pins, p.1 ≠ b) :
    Inv X pins σ H' { s with heap := h', gens := g', drawn := d', toks := t' } := by
  obtain ⟨m, ⟨o, es, ep, ho, r⟩, _⟩ := id I.loc
  obtain ⟨sl, hL⟩ := u.any ho I.free fun z => (hch _ z).2.1 rfl
  exact I.step (ch := ch) hch (fun b o hL hb hc e n => u.keep b o e n (fun z => (List.mem_cons.mp (I.stkSub b z)).elim hL hb) hc) (fun b o _ _ hc e n => u.any e n hc) (fun b o hc e n => u.free b o e n hc) (fun b o hc e => u.there b o e hc) u.tups u.frzs u.tbls (fun m' hm => by
    obtain ⟨o', es', ep', ho', r'⟩ := hm
    rw [ho] at ho'; cases ho'
    exact ⟨_, es', ep', hL, r'⟩) hok hg
theorem Inv.turned {t' : Nat} {it : Addr} (I : Inv X pins σ H s) (k : ∀ b o, b ≠ it → s.heap.get? b = some o → h'.get? b = some o) (hn : H it = none) (hL : it ≠ X.env.locals)
    (h1 : it ∈ X.ex ∨ X.s₀.heap.objs.size ≤ it) (h2 : ∀ x c, X.env.cells.lookup x = some c → c ≠ it) (h3 : ∀ p ∈ X.pn ++ pins, p.1 ≠ it) : Inv X pins σ H { s with heap := h', toks := t' } := by
  have nit : ∀ b u, H b = some u → b ≠ it := fun b u e z => by rw [z, hn] at e; cases e
  refine I.step (g' := s.gens) (d' := s.drawn) (ch := [it]) (fun b hb => ?_) (fun b o _ _ hc e _ => k b o (fun z => hc (by simp [z])) e) (fun b o _ _ hc e _ => ⟨o.slots, k b o (fun z => hc (by simp [z])) e⟩) (fun _ _ _ _ n => n)
    (fun b o hc e => ⟨o, k b o (fun z => hc (by simp [z])) e⟩) (fun _ _ e => e) (fun _ _ _ e => e) (fun b ps e => ⟨#[], by rw [e]; simp⟩) (fun m hm => ?_) (fun b u e => ?_) I.bare
  · have e : b = it := by simpa using hb
    subst e
    exact ⟨h1, hL, h2, h3⟩
  · obtain ⟨o, es, ep, ho, r⟩ := hm
    exact ⟨o, es, ep, k _ o (Ne.symm hL) ho, r⟩
  · refine (I.hok b u e).stay (fun c v hc q => k c v ?_ q) (fun _ q => q) fun _ _ q => q
    rcases hc with z | z
    · rw [z]; exact nit b u e
    · exact nit c _ z
theorem Inv.tok (I : Inv X pins σ H s) (t : Nat) : Inv X pins σ H { s with toks := t } := I.un (h' := s.heap) (t' := t) Un.refl I.hok
theorem Inv.kept {t' : Nat} (I : Inv X pins σ H s) (k : ∀ b u, s.heap.get? b = some u → h'.get? b = some u) : Inv X pins σ H { s with heap := h', toks := t' } := I.un (Un.kept k) (I.hok.kept k)
theorem Inv.laid {a : Addr} {o : HO} {t' : Nat} (I : Inv X pins σ H s) (k : ∀ b u, s.heap.get? b = some u → h'.get? b = some u) (hp : s.heap.objs.size ≤ a) (new : ObjOk X.prog X.w (upd H a o) h' a o) :
    Inv X pins σ (upd H a o) { s with heap := h', toks := t' } := I.un (Un.laid k hp (I.hok.fresh hp)) (I.hok.laid k hp new)
theorem Inv.write {x e : Addr} {o : HO} {t' : Nat} (I : Inv X pins σ H s) (mu : Mut (H x)) (he : e = x ∨ H e = some (.own x)) (k : ∀ b u, b ≠ e → s.heap.get? b = some u → h'.get? b = some u) (heo : ∃ u, h'.get? e = some u)
    (new : ObjOk X.prog X.w (upd H x o) h' x o) : Inv X pins σ (upd H x o) { s with heap := h', toks := t' } := I.un (Un.write mu he k heo) (I.hok.write mu he k heo new)
theorem Inv.weak {σ' : List (Option V)} (I : Inv X pins σ H s) (hl : σ'.length = σ.length) (w : ∀ (i : Nat) v, σ'[i]? = some (some v) → σ[i]? = some (some v)) : Inv X pins σ' H s :=
  ⟨I.ok, I.os, I.bare, I.base, let ⟨m, hn, hl'⟩ := I.loc; ⟨m, hn, fun i x v e1 e2 e3 => hl' i x v e1 (w i v e2) e3⟩, I.cell, I.free, I.freeC, I.pin, I.hok, hl.trans I.len⟩
theorem Inv.pins_of {pins' : List (Addr × Obj)} (I : Inv X pins σ H s) (h : ∀ p ∈ pins', s.heap.get? p.1 = some p.2 ∧ H p.1 = none ∧ p.1 ≠ X.env.locals ∧ p.1 ∉ X.fs ∧ ∀ v, p.2.data ≠ .cell v) : Inv X pins' σ H s :=
  ⟨I.ok, I.os, I.bare, I.base, I.loc, I.cell, I.free, I.freeC, fun p hp => (List.mem_append.mp hp).elim (fun z => I.pin p (List.mem_append_left _ z)) (h p), I.hok, I.len⟩
theorem nodup_ix {N : List Str} (hN : N.Nodup) {i j : Nat} {x : Str} (a : N[i]? = some x) (b : N[j]? = some x) : i = j := by
  obtain ⟨h1, e1⟩ := List.getElem?_eq_some_iff.mp a
  obtain ⟨h2, e2⟩ := List.getElem?_eq_some_iff.mp b
  exact (List.getElem_inj hN).mp (e1.trans e2.symm)
theorem store_ok2 {M : Model} {A : Around} {E : Value → Shared → Prop} {i : Nat} {x : Str} {v : V} {u : Value} {Q : Unit → Shared → Prop} (I : Inv X pins σ H s) (hN : X.N.Nodup) (hi : X.N[i]? = some x) (hx : Loc X.env.scope x) (r : RelV v u)
    (h : ∀ s', Inv X pins (σ.set i (some v)) H s' → (∃ a, Heap.SameBut a s.heap s'.heap ∧ (a = X.env.locals ∨ X.env.cells.lookup x = some a)) → Q () s') (hf : X.fn x = true ∨ X.env.scope.names.lookup x = some .local := by first | exact .inl rfl | exact .inr rfl | assumption) : wpAny M A (storeName X.env x u) Q E s := by
  obtain ⟨m, hn, hl⟩ := id I.loc
  have hcls : (X.env.scope.kind == .class || (X.env.scope.kind == .module && X.env.locals != X.env.globals)) = false := by rw [I.ok.kind]; rfl
  have hiσ : i < σ.length := by rw [I.len]; exact (List.getElem?_eq_some_iff.mp hi).1
  have cne := I.cne
  have tracked : ∀ {a : Addr} {h' : Heap}, (∃ o, s.heap.get? a = some o ∧ H a = none) → Heap.SameBut a s.heap h' → HOk X.prog X.w H h' := fun {a h'} ha hs b ob e => by
    obtain ⟨_, _, hfree⟩ := ha
    refine (I.hok b ob e).stay (fun c w' hc q => (hs.2 c ?_).trans q) (fun _ q => q) fun _ _ q => q
    rintro rfl
    rcases hc with rfl | hc
    · rw [hfree] at e; cases e
    · rw [hfree] at hc; cases hc
  rcases hx with hk | hk
  · refine wpAny_storeName_local hk hn (fun h' hn' hs => ?_) hcls
    obtain ⟨oL, _, _, hoL, _⟩ := id hn
    refine h _ ⟨I.ok, I.os, I.bare, ⟨fun b o e n hb hx => ?_, fun b o e n hb hx => ?_, I.base.free, fun b o e hx => ?_, I.base.tups, I.base.frzs, I.base.tbls⟩, ⟨_, hn', fun j y v' e1 e2 e3 => ?_⟩, fun y c e => ?_, I.free, I.freeC, fun p hp => ?_, tracked ⟨oL, hoL, I.free⟩ hs, by simpa using I.len⟩ ⟨_, hs, .inl rfl⟩
    · exact (hs.2 b (Nat.ne_of_lt (Nat.lt_of_lt_of_le (Heap.lt_size e) I.ok.above))).trans (I.base.keep b o e n hb hx)
    · obtain ⟨sl, e1⟩ := I.base.slot b o e n hb hx
      exact ⟨sl, (hs.2 b (Nat.ne_of_lt (Nat.lt_of_lt_of_le (Heap.lt_size e) I.ok.above))).trans e1⟩
    · obtain ⟨o', e1⟩ := I.base.there b o e hx
      exact ⟨o', (hs.2 b (Nat.ne_of_lt (Nat.lt_of_lt_of_le (Heap.lt_size e) I.ok.above))).trans e1⟩
    · by_cases hj : j = i
      · subst hj
        rw [hi] at e1; cases e1
        rw [List.getElem?_set_self hiσ] at e2
        cases e2
        exact ⟨u, r, .inl ⟨hk, by simp⟩⟩
      · rw [List.getElem?_set_ne (Ne.symm hj)] at e2
        obtain ⟨u', r', q⟩ := hl j y v' e1 e2 e3
        refine ⟨u', r', ?_⟩
        rcases q with ⟨k, e⟩ | ⟨k, c, e, z⟩
        · refine .inl ⟨k, ?_⟩
          have : y ≠ x := fun e => hj (nodup_ix hN e1 (e ▸ hi))
          simp [this, e]
        · exact .inr ⟨k, c, e, z.sameBut hs (cne y c e)⟩
    · obtain ⟨w', z⟩ := I.cell y c e
      exact ⟨w', z.sameBut hs (cne y c e)⟩
    · obtain ⟨e, n, ne, nf, d⟩ := I.pin p hp
      exact ⟨(hs.2 p.1 ne).trans e, n, ne, nf, d⟩
  · have hfn : X.fn x = true := by
      rcases hf with z | z
      · exact z
      · rw [z] at hk; cases hk
    obtain ⟨c, hc⟩ := I.ok.has x (.inl hk)
    obtain ⟨w', z⟩ := I.cell x c hc
    refine wpAny_storeName_cell I.ok.kind hk hc z (fun h' hc' hs => ?_)
    obtain ⟨oc, hoc, hocd⟩ := id z
    refine h { s with heap := h' } ⟨I.ok, I.os, I.bare, ⟨fun b o e n hb hx => ?_, fun b o e n hb hx => ?_, I.base.free, fun b o e hx => ?_, I.base.tups, I.base.frzs, I.base.tbls⟩, ⟨m, hn.sameBut hs (Ne.symm (cne x c hc)), fun j y v' e1 e2 e3 => ?_⟩, fun y c' e => ?_, I.free, I.freeC, fun p hp => ?_, tracked ⟨oc, hoc, I.freeC x c hc⟩ hs, by simpa using I.len⟩ ⟨c, hs, .inr hc⟩
    · exact (hs.2 b (Nat.ne_of_lt (Nat.lt_of_lt_of_le (Heap.lt_size e) (I.ok.cab x c hfn hc)))).trans (I.base.keep b o e n hb hx)
    · obtain ⟨sl, e1⟩ := I.base.slot b o e n hb hx
      exact ⟨sl, (hs.2 b (Nat.ne_of_lt (Nat.lt_of_lt_of_le (Heap.lt_size e) (I.ok.cab x c hfn hc)))).trans e1⟩
    · obtain ⟨o', e1⟩ := I.base.there b o e hx
      exact ⟨o', (hs.2 b (Nat.ne_of_lt (Nat.lt_of_lt_of_le (Heap.lt_size e) (I.ok.cab x c hfn hc)))).trans e1⟩
    · by_cases hj : j = i
      · subst hj
        rw [hi] at e1; cases e1
        rw [List.getElem?_set_self hiσ] at e2
        cases e2
        exact ⟨u, r, .inr ⟨.inl hk, c, hc, hc'⟩⟩
      · rw [List.getElem?_set_ne (Ne.symm hj)] at e2
        obtain ⟨u', r', q⟩ := hl j y v' e1 e2 e3
        refine ⟨u', r', ?_⟩
        rcases q with q | ⟨k, c', e, z'⟩
        · exact .inl q
        · refine .inr ⟨k, c', e, z'.sameBut hs ?_⟩
          rintro rfl
          exact hj (nodup_ix hN e1 (I.ok.inj _ _ _ e hc ▸ hi))
    · by_cases hcc : c' = c
      · subst hcc; exact ⟨_, hc'⟩
      · obtain ⟨w2, z2⟩ := I.cell y c' e
        exact ⟨w2, z2.sameBut hs hcc⟩
    · obtain ⟨e, n, ne, nf, d⟩ := I.pin p hp
      refine ⟨(hs.2 p.1 ?_).trans e, n, ne, nf, d⟩
      intro q
      rw [q, hoc] at e
      have q' : oc = p.2 := Option.some.inj e
      exact d w' (by rw [← q']; exact hocd)
theorem store_ok {M : Model} {A : Around} {E : Value → Shared → Prop} {i : Nat} {x : Str} {v : V} {u : Value} {Q : Unit → Shared → Prop} (I : Inv X pins σ H s) (hN : X.N.Nodup) (hi : X.N[i]? = some x) (hx : Loc X.env.scope x) (r : RelV v u)
    (h : ∀ s', Inv X pins (σ.set i (some v)) H s' → Q () s') (hf : X.fn x = true ∨ X.env.scope.names.lookup x = some .local := by first | exact .inl rfl | exact .inr rfl | assumption) : wpAny M A (storeName X.env x u) Q E s :=
  store_ok2 I hN hi hx r (fun s' I' _ => h s' I') hf
theorem Inv.call' {s' : Shared} {ch : List Addr} (I : Inv X pins σ H s) (ho : s'.os = s.os) (u : Un (frs X.stack) ch H H' s.heap s'.heap) (hok : HOk X.prog X.w H' s'.heap) (hg : AllBare s'.gens)
    (hch : ∀ b ∈ ch, (b ∈ X.ex ∨ X.s₀.heap.objs.size ≤ b) ∧ b ≠ X.env.locals ∧ (∀ x c, X.env.cells.lookup x = some c → c ≠ b) ∧ ∀ p ∈ X.pn ++ pins, p.1 ≠ b) : Inv X pins σ H' s' := by
  obtain ⟨h', g', d', t', o'⟩ := s'
  have e : o' = s.os := ho
  subst e
  exact I.call (g' := g') (t' := t') (d' := d') u hok hg hch
end
abbrev XK := Value → Option Addr → Hp → Prop
abbrev St := List (Option V)
abbrev VK := V → Hp → Prop
abbrev TE := St → Hp → VK → Prop
abbrev TT := St → Hp → (Bool → Hp → Prop) → Prop
abbrev TA := St → Hp → (List V → Hp → Prop) → Prop
structure Ends where
  nx : St → Hp → Prop
  rt : VK
  bk : St → Hp → Prop := fun _ _ => False
  ct : St → Hp → Prop := fun _ _ => False
abbrev TS := Ends → St → Hp → Prop
def EP (X : Cx) (pins : List (Addr × Obj)) (σ : St) (Q : VK) (u : Value) (s' : Shared) : Prop := ∃ v H', Inv X pins σ H' s' ∧ RelV v u ∧ Q v H'
def TP (X : Cx) (pins : List (Addr × Obj)) (σ : St) (Q : Bool → Hp → Prop) (b : Bool) (s' : Shared) : Prop := ∃ H', Inv X pins σ H' s' ∧ Q b H'
def AP (X : Cx) (pins : List (Addr × Obj)) (σ : St) (Q : List V → Hp → Prop) (us : List Value) (s' : Shared) : Prop := ∃ vs H', Inv X pins σ H' s' ∧ Vals vs us ∧ Q vs H'
def SP (X : Cx) (pins : List (Addr × Obj)) (D : Ends) (f : Flow) (s' : Shared) : Prop :=
  match f with
  | .next => ∃ σ' H', Inv X pins σ' H' s' ∧ D.nx σ' H'
  | .brk => ∃ σ' H', Inv X pins σ' H' s' ∧ D.bk σ' H'
  | .cont => ∃ σ' H', Inv X pins σ' H' s' ∧ D.ct σ' H'
  | .ret u => ∃ v σ' H', Inv X pins σ' H' s' ∧ RelV v u ∧ D.rt v H'
def PE (X : Cx) (e : Expr) (t : TE) : Prop :=
  ∀ (pins : List (Addr × Obj)) (s : Shared) (σ : St) (H : Hp) (Q : VK), Inv X pins σ H s → t σ H Q → wpAny (model X.prog X.w) X.A (eval e X.env) (EP X pins σ Q) X.xe s
def PT (X : Cx) (e : Expr) (t : TT) : Prop :=
  ∀ (pins : List (Addr × Obj)) (s : Shared) (σ : St) (H : Hp) (Q : Bool → Hp → Prop), Inv X pins σ H s → t σ H Q → wpAny (model X.prog X.w) X.A (isTrue e X.env (eval e X.env)) (TP X pins σ Q) X.xe s
def PW (X : Cx) (e : Expr) (t : TT) : Prop :=
  ∀ (whole : Sem Value) (pins : List (Addr × Obj)) (s : Shared) (σ : St) (H : Hp) (Q : Bool → Hp → Prop), Inv X pins σ H s → t σ H Q → wpAny (model X.prog X.w) X.A (isTrue e X.env whole) (TP X pins σ Q) X.xe s
theorem PW.pt {X : Cx} {e : Expr} {t : TT} (h : PW X e t) : PT X e t := h _
def PA (X : Cx) (es : List Expr) (t : TA) : Prop :=
  ∀ (pos : Pos) (pins : List (Addr × Obj)) (s : Shared) (σ : St) (H : Hp) (Q : List V → Hp → Prop), Inv X pins σ H s → t σ H Q → wpAny (model X.prog X.w) X.A (spliced (backTo pos (starEach es X.env))) (AP X pins σ Q) X.xe s
def PS (X : Cx) (st : Stmt) (t : TS) : Prop :=
  ∀ (pins : List (Addr × Obj)) (s : Shared) (σ : St) (H : Hp) (D : Ends), Inv X pins σ H s → t D σ H → wpAny (model X.prog X.w) X.A (exec st X.env) (SP X pins D) X.xe s
def PSs (X : Cx) (st : List Stmt) (t : TS) : Prop :=
  ∀ (pins : List (Addr × Obj)) (s : Shared) (σ : St) (H : Hp) (D : Ends), Inv X pins σ H s → t D σ H → wpAny (model X.prog X.w) X.A (execs st X.env) (SP X pins D) X.xe s
theorem thn {α : Type} {t : Sem α} {Q Q' : α → Shared → Prop} {M : Model} {A : Around} {E : Value → Shared → Prop} {s : Shared} (h : wpAny M A t Q E s) (hQ : ∀ a s, Q a s → Q' a s) : wpAny M A t Q' E s := wpAny_mono h hQ fun _ _ x => x
end L2
namespace L2
open PySem PySem.Spec PyProof.Rows
section
variable {X : Cx}
def tVar (i : Nat) : TE := fun σ H Q => ∃ v, σ[i]? = some (some v) ∧ Q v H
def tC (v : V) : TE := fun _ H Q => Q v H
theorem pe_var {i : Nat} {x : Str} {pos : Pos} (hN : X.N[i]? = some x) (hv : Vis X.env.scope x) (hd : (x == ("__debug__" : Str)) = false := by decide) (hcd : (x == ("__classdict__" : Str)) = false := by decide) : PE X (.Name x pos) (tVar i) := by
  intro pins s σ H Q I h
  obtain ⟨v, e, h⟩ := h
  obtain ⟨m, hn, hl⟩ := I.loc
  obtain ⟨u, r, l⟩ := hl i x v hN e hv
  have fin : EP X pins σ Q u s := ⟨v, H, I, r, h⟩
  rcases l with ⟨hk, hm⟩ | ⟨hk, c, hc, hcell⟩
  · exact wpAny_Name (wpAny_loadName_local I.ok.kind hk hn hm fin) hd
  · rcases hk with hk | hk
    · exact wpAny_Name (wpAny_loadName_cell I.ok.kind hk hc hcell fin) hd
    · exact wpAny_Name (wpAny_loadName_free I.ok.kind hk hc hcell fin hcd) hd
theorem pe_int {i j pos} : PE X (.Constant (.int i) j pos) (tC (.int i)) := fun _ _ _ H _ I h => wpAny_Constant_int ⟨.int i, H, I.tok _, ⟨_, rfl⟩, h⟩
theorem pe_bl {b j pos} : PE X (.Constant (.bool b) j pos) (tC (.bl b)) := fun _ _ _ H _ I h => Constant_bool ⟨.bl b, H, I, rfl, h⟩
theorem pe_non {j pos} : PE X (.Constant .none j pos) (tC .non) := fun _ _ _ H _ I h => Constant_none ⟨.non, H, I, rfl, h⟩
theorem pe_str {x j pos} : PE X (.Constant (.str x) j pos) (tC (.str x)) := fun _ _ _ H _ I h => Calls.Constant_str ⟨.str x, H, I.tok _, ⟨_, rfl⟩, h⟩
def Gl (X : Cx) (x : Str) : Prop := X.env.kindOf x = some .globalImplicit
theorem ld_glob {E : Value → Shared → Prop} {pins : List (Addr × Obj)} {s : Shared} {σ : St} {H : Hp} {x : Str} {u : Value} {pos : Pos} {Q : Value → Shared → Prop} (I : Inv X pins σ H s) (hg : Gl X x) (hm : X.mg x = some u) (h : Q u s)
    (hd : (x == ("__debug__" : Str)) = false := by decide) : wpAny (model X.prog X.w) X.A (eval (.Name x pos) X.env) Q E s :=
  Calls.Name_function_global I.ok.kind hg (Calls.loadGlobal_global (by rw [I.ok.glob]; exact I.mod.glob.keeps I.bk) hm h) hd
theorem ld_blt {E : Value → Shared → Prop} {pins : List (Addr × Obj)} {s : Shared} {σ : St} {H : Hp} {x : Str} {u : Value} {pos : Pos} {Q : Value → Shared → Prop} (I : Inv X pins σ H s) (hg : Gl X x) (hm : X.mg x = none) (hv : bootBuiltins x = some u) (h : Q u s)
    (hn : x ≠ "__name__" := by decide) (hd : (x == ("__debug__" : Str)) = false := by decide) : wpAny (model X.prog X.w) X.A (eval (.Name x pos) X.env) Q E s := by
  obtain ⟨mb, h1, h2⟩ := I.mod.blt
  exact Calls.Name_function_global I.ok.kind hg (Calls.loadGlobal_builtin (by rw [I.ok.glob]; exact I.mod.glob.keeps I.bk) hm (by rw [I.ok.blt]; exact h1.keeps I.bk) ((h2 x hn).trans hv) h) hd
theorem pe_glob {x : Str} {v : V} {u : Value} {pos : Pos} (hg : Gl X x) (hm : X.mg x = some u) (r : RelV v u) (hd : (x == ("__debug__" : Str)) = false := by decide) : PE X (.Name x pos) (tC v) :=
  fun _ _ _ H _ I h => ld_glob I hg hm ⟨v, H, I, r, h⟩ hd
theorem pe_bltn {x : Str} {v : V} {u : Value} {pos : Pos} (hg : Gl X x) (hm : X.mg x = none) (hv : bootBuiltins x = some u) (r : RelV v u) (hn : x ≠ "__name__" := by decide) (hd : (x == ("__debug__" : Str)) = false := by decide) : PE X (.Name x pos) (tC v) :=
  fun _ _ _ H _ I h => ld_blt I hg hm hv ⟨v, H, I, r, h⟩ hn hd
variable {a b : Expr} {ta tb : TE} {pos : Pos}
def PC (X : Cx) (op : CmpOp) (a b : Expr) (t : TE) : Prop :=
  ∀ (pins : List (Addr × Obj)) (s : Shared) (σ : St) (H : Hp) (Q : VK), Inv X pins σ H s → t σ H Q →
    wpAny (model X.prog X.w) X.A (eval a X.env) (fun v s₁ => wpAny (model X.prog X.w) X.A (eval b X.env) (fun u s₂ => wpAny (model X.prog X.w) X.A (compareOp op v u) (EP X pins σ Q) X.xe s₂) X.xe s₁) X.xe s
theorem nobehind (b : Expr) {op : CmpOp} (h : op ≠ .In) (h2 : op ≠ .NotIn) : behindInMarks op b = false := by
  have e1 : (op == CmpOp.In) = false := by cases op <;> first | rfl | exact absurd rfl h
  have e2 : (op == CmpOp.NotIn) = false := by cases op <;> first | rfl | exact absurd rfl h2
  cases b <;> simp [behindInMarks, e1, e2]
def tIsN (ta : TE) : TE := fun σ H Q => ta σ H fun x H1 => Q (.bl (decide (x = .non))) H1
theorem RelV.none_iff {x : V} {v : Value} (r : RelV x v) : (v == Value.none) = decide (x = .non) := by
  cases x with
  | non => cases r; rfl
  | bl _ => cases r; rfl
  | int _ => obtain ⟨t, rfl⟩ := r; rfl
  | str _ => obtain ⟨t, rfl⟩ := r; rfl
  | byt _ => obtain ⟨t, rfl⟩ := r; rfl
  | flt _ => obtain ⟨t, rfl⟩ := r; rfl
  | ref _ => cases r; rfl
  | ty _ => cases r; rfl
theorem pc_isN {j pos'} (ha : PE X a ta) : PC X .Is a (.Constant .none j pos') (tIsN ta) := by
  intro pins s σ H Q I h
  refine thn (ha pins s σ H _ I h) fun v s1 ⟨x, H1, I1, r1, q1⟩ => ?_
  exact Constant_none (is_none_gen ⟨.bl _, H1, I1, by rw [r1.none_iff]; rfl, q1⟩)
def tB (t : TE) : TT := fun σ H Q => t σ H fun x H1 => ∃ c, x = .bl c ∧ Q c H1
theorem pt_cmp {op : CmpOp} {t : TE} (h : PC X op a b t) (h1 : behindInMarks op b = false := by first | exact nobehind _ (by decide) (by decide) | rfl) : PT X (.Compare a [op] [b] pos) (tB t) := by
  intro pins s σ H Q I hw
  refine wpAny_isTrue_Compare1 (thn (h pins s σ H _ I hw) fun v s1 h1 => thn h1 fun u s2 h2 => thn h2 fun c s3 ⟨x, H1, I1, r1, q1⟩ => ?_) h1
  obtain ⟨d, rfl, q⟩ := q1
  cases r1
  exact wpAny_truthy_bool ⟨H1, I1, q⟩
theorem pt_val {e : Expr} {t : TE} (h : PE X e t) (he : ∀ whole, isTrue e X.env whole = (do let v ← whole; standAt e.pos; holding [v] (truthy v)) := by intro _; rfl) : PT X e (tB t) := by
  intro pins s σ H Q I hw
  refine isTrue_plain (thn (h pins s σ H _ I hw) fun v s1 ⟨x, H1, I1, r1, q1⟩ => ?_) (he _)
  obtain ⟨d, rfl, q⟩ := q1
  cases r1
  exact wpAny_truthy_bool ⟨H1, I1, q⟩
variable {tA tB' : TT} {rest : List Expr}
def tAnd (t u : TT) : TT := fun σ H Q => t σ H fun c H1 => if c = true then u σ H1 Q else Q false H1
def tOr (t u : TT) : TT := fun σ H Q => t σ H fun c H1 => if c = true then Q true H1 else u σ H1 Q
def tNot (t : TT) : TT := fun σ H Q => t σ H fun c H1 => Q (!c) H1
theorem pw_and1 (ha : PT X a tA) : PW X (.BoolOp .And [a] pos) tA := by
  intro wh pins s σ H Q I h
  refine isTrue_and (thn (ha pins s σ H Q I h) fun c s1 e => ?_)
  cases c with
  | true => exact isTrue_and_nil e
  | false => exact e
theorem pw_or1 (ha : PT X a tA) : PW X (.BoolOp .Or [a] pos) tA := by
  intro wh pins s σ H Q I h
  refine isTrue_or (thn (ha pins s σ H Q I h) fun c s1 e => ?_)
  cases c with
  | false => exact isTrue_or_nil e
  | true => exact e
theorem pw_and (ha : PT X a tA) (hb : PW X (.BoolOp .And (b :: rest) pos) tB') : PW X (.BoolOp .And (a :: b :: rest) pos) (tAnd tA tB') := by
  intro wh pins s σ H Q I h
  refine isTrue_and (thn (ha pins s σ H _ I h) fun c s1 ⟨H1, I1, q1⟩ => ?_)
  cases c with
  | true => exact hb wh pins s1 σ H1 Q I1 q1
  | false => exact ⟨H1, I1, q1⟩
theorem pw_or (ha : PT X a tA) (hb : PW X (.BoolOp .Or (b :: rest) pos) tB') : PW X (.BoolOp .Or (a :: b :: rest) pos) (tOr tA tB') := by
  intro wh pins s σ H Q I h
  refine isTrue_or (thn (ha pins s σ H _ I h) fun c s1 ⟨H1, I1, q1⟩ => ?_)
  cases c with
  | true => exact ⟨H1, I1, q1⟩
  | false => exact hb wh pins s1 σ H1 Q I1 q1
theorem pt_not (ha : PT X a tA) : PT X (.UnaryOp .Not a pos) (tNot tA) := by
  intro pins s σ H Q I h
  exact isTrue_not (ha pins s σ H (fun c H1 => Q (!c) H1) I h)
def tAndV (ta tb : TE) : TE := fun σ H Q => ta σ H fun x H1 => ∃ c, x = .bl c ∧ if c = true then tb σ H1 Q else Q (.bl false) H1
def tNotV (ta : TE) : TE := fun σ H Q => ta σ H fun x H1 => ∃ c, x = .bl c ∧ Q (.bl (!c)) H1
theorem pe_one {op} {t : TE} (h : PE X a t) : PE X (.BoolOp op [a] pos) t := fun pins s σ H Q I hw => BoolOp_one (h pins s σ H Q I hw)
theorem pe_and (ha : PE X a ta) (hb : PE X (.BoolOp .And (b :: rest) pos) tb) : PE X (.BoolOp .And (a :: b :: rest) pos) (tAndV ta tb) := by
  intro pins s σ H Q I h
  refine BoolOp_and (thn (ha pins s σ H _ I h) fun v s1 ⟨x, H1, I1, r1, q1⟩ => ?_)
  obtain ⟨c, rfl, q1⟩ := q1
  cases r1
  refine wpAny_truthy_bool ?_
  cases c with
  | true => exact hb pins s1 σ H1 Q I1 q1
  | false => exact ⟨.bl false, H1, I1, rfl, q1⟩
theorem pe_not (ha : PE X a ta) : PE X (.UnaryOp .Not a pos) (tNotV ta) := by
  intro pins s σ H Q I h
  refine UnaryOp_ (thn (ha pins s σ H _ I h) fun v s1 ⟨x, H1, I1, r1, q1⟩ => ?_)
  obtain ⟨c, rfl, q1⟩ := q1
  cases r1
  exact not_of (wpAny_truthy_bool ⟨.bl (!c), H1, I1, rfl, q1⟩)
def tIf (t : TT) (ta tb : TE) : TE := fun σ H Q => t σ H fun c H1 => if c = true then ta σ H1 Q else tb σ H1 Q
theorem pe_ifExp {c : Expr} (hc : PT X c tA) (ha : PE X a ta) (hb : PE X b tb) : PE X (.IfExp c a b pos) (tIf tA ta tb) := by
  intro pins s σ H Q I h
  refine wpAny_IfExp (thn (hc pins s σ H _ I h) fun d s1 ⟨H1, I1, q1⟩ => ?_)
  cases d with
  | true => exact ha pins s1 σ H1 Q I1 q1
  | false => exact hb pins s1 σ H1 Q I1 q1
end
end L2
namespace L2
open PySem PySem.Spec PyProof.Rows
def SqL (K : PySem.W.Frag) (H : Hp) (a : Addr) (xs : List V) : Prop :=
  Rd H a (.lst xs) ∨
    ∃ (o : Obj) (its : Array Value) (n : Nat), K.lookup a = some o ∧ o.cls = .type "list" ∧ o.dict = none ∧ o.data = .seq its n ∧ its.size ≤ sizeLine ∧ Vals xs its.toList
def SqT (K : PySem.W.Frag) (H : Hp) (a : Addr) (xs : List V) : Prop :=
  Rd H a (.tup xs) ∨
    ∃ (o : Obj) (its : Array Value) (n : Nat), K.lookup a = some o ∧ o.cls = .type "tuple" ∧ o.data = .seq its n ∧ its.size ≤ sizeLine ∧ Vals xs its.toList
def absV : Value → Option V
  | .none => some .non
  | .bool b => some (.bl b)
  | .int i _ => some (.int i)
  | .str x _ => some (.str x)
  | .bytes b _ => some (.byt b)
  | .float b _ => some (.flt b)
  | .ref a => some (.ref a)
  | .type n => some (.ty n)
  | _ => none
theorem RelV.abs {x : V} {u : Value} (r : RelV x u) : absV u = some x := by
  cases x with
  | non => cases r; rfl
  | bl _ => cases r; rfl
  | int _ => obtain ⟨t, rfl⟩ := r; rfl
  | str _ => obtain ⟨t, rfl⟩ := r; rfl
  | byt _ => obtain ⟨t, rfl⟩ := r; rfl
  | flt _ => obtain ⟨t, rfl⟩ := r; rfl
  | ref _ => cases r; rfl
  | ty _ => cases r; rfl
theorem RelV.inj {x y : V} {u : Value} (r : RelV x u) (q : RelV y u) : x = y := Option.some.inj (r.abs.symm.trans q.abs)
theorem Vals.inj : ∀ {xs ys : List V} {us : List Value}, Vals xs us → Vals ys us → xs = ys
  | _, _, _, .nil, .nil => rfl
  | _, _, _, .cons r t, .cons r' t' => by rw [r.inj r', Vals.inj t t']
section
variable {X : Cx} {pins : List (Addr × Obj)} {σ : St} {H : Hp} {s : Shared} {a : Addr} {xs ys : List V}
theorem SqL.of {K : PySem.W.Frag} (h : H a = some (.lst xs)) : SqL K H a xs := .inl (.inl h)
theorem SqT.of {K : PySem.W.Frag} (h : H a = some (.tup xs)) : SqT K H a xs := .inl (.inl h)
theorem Inv.list (I : Inv X pins σ H s) (h : SqL X.K H a xs) : ∃ its : List Value, Vals xs its ∧ PlainL s.heap a its.toArray ∧ xs.length ≤ sizeLine := by
  rcases h with h | ⟨o, its, n, hk, hc, hd, hs, hz, r⟩
  · obtain ⟨z, its, n, r, e⟩ := h.ok I.hok
    exact ⟨its, r, ⟨_, n, e, rfl, rfl, rfl⟩, z⟩
  · refine ⟨its.toList, r, ⟨o, n, I.kIn a o hk, hc, hd, by simpa using hs⟩, ?_⟩
    have e := r.length
    simp only [Array.length_toList] at e
    omega
theorem Inv.tuple (I : Inv X pins σ H s) (h : SqT X.K H a xs) : ∃ its : List Value, Vals xs its ∧ IsTup s.heap a its.toArray ∧ xs.length ≤ sizeLine := by
  rcases h with h | ⟨o, its, n, hk, hc, hs, hz, r⟩
  · obtain ⟨z, its, r, p⟩ := h.ok I.hok
    exact ⟨its, r, p, z⟩
  · refine ⟨its.toList, r, ⟨o, I.kIn a o hk, hc, n, by simpa using hs⟩, ?_⟩
    have e := r.length
    simp only [Array.length_toList] at e
    omega
theorem Inv.list_inj (I : Inv X pins σ H s) (h : SqL X.K H a xs) (h' : SqL X.K H a ys) : xs = ys := by
  obtain ⟨its, r, ⟨o, n, e, _, _, d⟩, _⟩ := I.list h
  obtain ⟨its', r', ⟨o', n', e', _, _, d'⟩, _⟩ := I.list h'
  rw [e] at e'; cases e'
  rw [d] at d'
  injection d' with d1 _
  have : its = its' := by simpa using congrArg Array.toList d1
  subst this
  exact r.inj r'
end
abbrev Cx.wish (X : Cx) (E : Value → Shared → Prop) : Cx := { X with xe := E }
abbrev Cx.nox (X : Cx) : Cx := X.wish fun _ _ => False
theorem Cx.Ok.wish {X : Cx} (ok : X.Ok) (E : Value → Shared → Prop) : (X.wish E).Ok :=
  ⟨ok.mod, ok.kind, ok.glob, ok.blt, ok.above, ok.inj, ok.has, ok.cab, ok.hd, ok.frames, ok.stk, ok.exf, ok.bs, ok.bsz, ok.noex, ok.exfs, ok.funs, ok.frf⟩
theorem Cx.Ok.unwish {X : Cx} {E : Value → Shared → Prop} (ok : (X.wish E).Ok) : X.Ok :=
  ⟨ok.mod, ok.kind, ok.glob, ok.blt, ok.above, ok.inj, ok.has, ok.cab, ok.hd, ok.frames, ok.stk, ok.exf, ok.bs, ok.bsz, ok.noex, ok.exfs, ok.funs, ok.frf⟩
section
variable {X : Cx} {pins : List (Addr × Obj)} {σ : St} {H : Hp} {s : Shared} {E : Value → Shared → Prop}
theorem Inv.wish (I : Inv X pins σ H s) (E : Value → Shared → Prop) : Inv (X.wish E) pins σ H s := ⟨I.ok.wish E, I.os, I.bare, I.base, I.loc, I.cell, I.free, I.freeC, I.pin, I.hok, I.len⟩
theorem Inv.unwish (I : Inv (X.wish E) pins σ H s) : Inv X pins σ H s := ⟨I.ok.unwish, I.os, I.bare, I.base, I.loc, I.cell, I.free, I.freeC, I.pin, I.hok, I.len⟩
theorem SP.unwish {D : Ends} {f : Flow} {s' : Shared} (h : SP (X.wish E) pins D f s') : SP X pins D f s' := by
  cases f with
  | next => obtain ⟨σ', H', I, q⟩ := h; exact ⟨σ', H', I.unwish, q⟩
  | brk => obtain ⟨σ', H', I, q⟩ := h; exact ⟨σ', H', I.unwish, q⟩
  | cont => obtain ⟨σ', H', I, q⟩ := h; exact ⟨σ', H', I.unwish, q⟩
  | ret u => obtain ⟨v, σ', H', I, r, q⟩ := h; exact ⟨v, σ', H', I.unwish, r, q⟩
theorem PE.nox {e : Expr} {t : TE} (h : PE X.nox e t) : PE X e t := fun pins s σ H Q I hw =>
  wpAny_mono (h pins s σ H Q (I.wish _) hw) (fun _ _ ⟨v, H', I', r, q⟩ => ⟨v, H', I'.unwish, r, q⟩) fun _ _ z => False.elim z
theorem PT.nox {e : Expr} {t : TT} (h : PT X.nox e t) : PT X e t := fun pins s σ H Q I hw =>
  wpAny_mono (h pins s σ H Q (I.wish _) hw) (fun _ _ ⟨H', I', q⟩ => ⟨H', I'.unwish, q⟩) fun _ _ z => False.elim z
theorem PSs.nox {st : List Stmt} {t : TS} (h : PSs X.nox st t) : PSs X st t := fun pins s σ H D I hw =>
  wpAny_mono (h pins s σ H D (I.wish _) hw) (fun _ _ q => q.unwish) fun _ _ z => False.elim z
end
section
variable {X : Cx} {st : Stmt} {rest : List Stmt} {t u : TS} {e : Expr} {te : TE} {pos : Pos}
def tNext : TS := fun D σ H => D.nx σ H
def tSeq (t u : TS) : TS := fun D σ H => t { D with nx := u D } σ H
theorem pss_nil : PSs X [] tNext := fun _ _ σ H _ I h => wpAny_execs_nil ⟨σ, H, I, h⟩
theorem pss_cons (h1 : PS X st t) (h2 : PSs X rest u) : PSs X (st :: rest) (tSeq t u) := by
  intro pins s σ H D I h
  refine wpAny_execs_cons (thn (h1 pins s σ H { D with nx := u D } I h) fun f s1 q => ?_)
  cases f with
  | next =>
    obtain ⟨σ', H', I', q⟩ := q
    exact h2 pins s1 σ' H' D I' q
  | ret v => exact q
  | brk => exact q
  | cont => exact q
theorem pss_one (h1 : PS X st t) : PSs X [st] t := by
  intro pins s σ H D I h
  refine wpAny_execs_cons (thn (h1 pins s σ H D I h) fun f s1 q => ?_)
  cases f with
  | next => exact wpAny_execs_nil q
  | ret v => exact q
  | brk => exact q
  | cont => exact q
theorem Inv.quiet {pins : List (Addr × Obj)} {σ : St} {H : Hp} {s : Shared} (I : Inv X pins σ H s) : interactive X.env = false := by simp [interactive, I.ok.kind]
def tDrop (te : TE) : TS := fun D σ H => te σ H fun _ H1 => D.nx σ H1
theorem ps_expr (he : PE X e te) (hs : swapsWith e none pos.line X.env = pure false := by rfl) : PS X (.Expr e pos) (tDrop te) := by
  intro pins s σ H D I h
  exact wpAny_Expr_any (thn (he pins s σ H _ I h) fun v s1 ⟨x, H1, I1, r1, q1⟩ => ⟨σ, H1, I1, q1⟩) I.quiet hs
def tRet (te : TE) : TS := fun D σ H => te σ H D.rt
theorem ps_ret (he : PE X e te) : PS X (.Return (some e) pos) (tRet te) := by
  intro pins s σ H D I h
  exact wpAny_Return_some (thn (he pins s σ H _ I h) fun v s1 ⟨x, H1, I1, r1, q1⟩ => ⟨x, σ, H1, I1, r1, q1⟩)
def tIfS (c : TT) (t u : TS) : TS := fun D σ H => c σ H fun b H1 => if b = true then t D σ H1 else u D σ H1
theorem ps_if {c : Expr} {a b : List Stmt} {tc : TT} (hc : PT X c tc) (ha : PSs X a t) (hb : PSs X b u) : PS X (.If c a b pos) (tIfS tc t u) := by
  intro pins s σ H D I h
  refine wpAny_If (thn (hc pins s σ H _ I h) fun d s1 ⟨H1, I1, q1⟩ => ?_)
  cases d with
  | true => exact ha pins s1 σ H1 D I1 q1
  | false => exact hb pins s1 σ H1 D I1 q1
end
abbrev TG := V → St → Hp → (St → Hp → Prop) → Prop
abbrev TGs := List V → St → Hp → (St → Hp → Prop) → Prop
def PG (X : Cx) (target : Expr) (t : TG) : Prop :=
  ∀ (pins : List (Addr × Obj)) (s : Shared) (σ : St) (H : Hp) (v : V) (u : Value) (Q : St → Hp → Prop), Inv X pins σ H s → RelV v u → t v σ H Q →
    wpAny (model X.prog X.w) X.A (assign target X.env u) (fun _ s' => ∃ σ' H', Inv X pins σ' H' s' ∧ Q σ' H') X.xe s
def PGs (X : Cx) (ts : List Expr) (t : TGs) : Prop :=
  ∀ (pins : List (Addr × Obj)) (s : Shared) (σ : St) (H : Hp) (vs : List V) (us : List Value) (Q : St → Hp → Prop), Inv X pins σ H s → Vals vs us → t vs σ H Q →
    wpAny (model X.prog X.w) X.A (assignInOrder ((assignEach ts X.env).map (·.2)) us) (fun _ s' => ∃ σ' H', Inv X pins σ' H' s' ∧ Q σ' H') X.xe s
abbrev TSet := V → V → V → Hp → (Hp → Prop) → Prop
def PSet (X : Cx) (t : TSet) : Prop :=
  ∀ (pins : List (Addr × Obj)) (s : Shared) (σ : St) (H : Hp) (o i v : V) (ov iv u : Value) (Q : Hp → Prop), Inv X pins σ H s → RelV o ov → RelV i iv → RelV v u → t o i v H Q →
    wpAny (model X.prog X.w) X.A (setItem ov iv u) (fun _ s' => ∃ H', Inv X pins σ H' s' ∧ Q H') X.xe s
section
variable {X : Cx} {pos : Pos}
def gName (i : Nat) : TG := fun v σ H Q => Q (σ.set i (some v)) H
theorem pg_name {i : Nat} {x : Str} (hN : X.N.Nodup) (hi : X.N[i]? = some x) (hx : Loc X.env.scope x) (hf : X.fn x = true ∨ X.env.scope.names.lookup x = some .local := by first | exact .inl rfl | exact .inr rfl | assumption) : PG X (.Name x pos) (gName i) := by
  intro pins s σ H v u Q I r h
  exact wpAny_assign_Name (store_ok I hN hi hx r (fun s' I' => ⟨_, H, I', h⟩) hf)
def gNil : TGs := fun vs σ H Q => vs = [] ∧ Q σ H
def gCons (t : TG) (u : TGs) : TGs := fun vs σ H Q => ∃ v r, vs = v :: r ∧ t v σ H fun σ' H' => u r σ' H' Q
theorem pgs_nil : PGs X [] gNil := by
  intro pins s σ H vs us Q I r h
  obtain ⟨e, h⟩ := h
  subst e
  cases r
  exact assignInOrder_nil ⟨σ, H, I, h⟩
theorem pgs_cons {e : Expr} {es : List Expr} {t : TG} {u : TGs} (h1 : PG X e t) (h2 : PGs X es u)
    (hs : (assignEach (e :: es) X.env).map (·.2) = assign e X.env :: (assignEach es X.env).map (·.2) := by rfl) : PGs X (e :: es) (gCons t u) := by
  intro pins s σ H vs us Q I r h
  obtain ⟨v, vr, e1, h⟩ := h
  subst e1
  cases r with
  | cons r rr =>
    rw [hs]
    refine assignInOrder_cons (thn (h1 pins s σ H _ _ _ I r h) fun _ s1 ⟨σ1, H1, I1, q1⟩ => ?_)
    exact h2 pins s1 σ1 H1 _ _ Q I1 rr q1
def gTup (K : PySem.W.Frag) (n : Nat) (t : TGs) : TG := fun v σ H Q => ∃ a xs, v = .ref a ∧ SqT K H a xs ∧ xs.length = n ∧ t xs σ H Q
theorem pg_tup {es : List Expr} {k : Nat} {t : TGs} {n : Nat} (hc : X.calm = true) (h : PGs X es t)
    (hn : (assignEach es X.env).length = n := by rfl) (hst : (assignEach es X.env).findIdx? (·.1) = none := by rfl) : PG X (.Tuple es k pos) (gTup X.K n t) := by
  intro pins s σ H v u Q I r hw
  obtain ⟨a, xs, e1, hq, hl, hw⟩ := hw
  subst e1
  cases r
  obtain ⟨its, rv, ht, hz⟩ := I.tuple hq
  refine assign_Tuple_tuple (I.ok.hd hc) ht (by simp [hn, ← hl, rv.length]) hst fun h' hx => ?_
  have I1 : Inv X pins σ H { s with heap := h' } := I.kept (t' := s.toks) fun b o e => hx b o (Nat.ne_of_lt (Heap.lt_size e)) e
  exact h pins _ σ H xs _ Q I1 (by simpa using rv) hw
def gSub (to ti : TE) (t : TSet) : TG := fun v σ H Q => to σ H fun o H1 => ti σ H1 fun i H2 => t o i v H2 fun H3 => Q σ H3
theorem pg_sub {o i : Expr} {to ti : TE} {t : TSet} (ho : PE X o to) (hi : PE X i ti) (hs : PSet X t)
    (ha : ∀ v, assign (.Subscript o i pos) X.env v = (do
      let ov ← holding [v] (eval o X.env)
      let iv ← holding [v, ov] (eval i X.env)
      standAt pos
      holding [v, ov, iv] (setItem ov iv v)
      release [v, ov, iv] []) := by intro _; rfl) : PG X (.Subscript o i pos) (gSub to ti t) := by
  intro pins s σ H v u Q I r h
  rw [ha]
  refine wpAny_bind (wpAny_holding (thn (ho pins s σ H _ I h) fun ov s1 ⟨x, H1, I1, r1, q1⟩ => ?_))
  refine wpAny_bind (wpAny_holding (thn (hi pins s1 σ H1 _ I1 q1) fun iv s2 ⟨y, H2, I2, r2, q2⟩ => ?_))
  refine wpAny_bind (wpAny_standAt (wpAny_bind (wpAny_holding (thn (hs pins s2 σ H2 x y v ov iv u _ I2 r1 r2 r q2) fun _ s3 ⟨H3, I3, q3⟩ => ?_))))
  exact wpAny_release ⟨σ, H3, I3, q3⟩
def tAsg (te : TE) (g : TG) : TS := fun D σ H => te σ H fun x H1 => g x σ H1 D.nx
theorem ps_asg {tg e : Expr} {te : TE} {g : TG} (he : PE X e te) (hg : PG X tg g) (hs : swapsWithSole [tg] e pos.line X.env = pure false := by rfl) (hw : swappedStores [tg] e X.env = pure none := by rfl)
    (h1 : (assignEach [tg] X.env).map (·.2) = [assign tg X.env] := by rfl) : PS X (.Assign [tg] e pos) (tAsg te g) := by
  intro pins s σ H D I h
  refine wpAny_Assign_stores (thn (he pins s σ H _ I h) fun v s1 ⟨x, H1, I1, r1, q1⟩ => ?_) hs hw
  rw [h1]
  exact thn (hg pins s1 σ H1 x v _ I1 r1 q1) fun _ s2 q => q
theorem ps_set {i : Nat} {x : Str} {e : Expr} {te : TE} {pos' : Pos} (hN : X.N.Nodup) (hi : X.N[i]? = some x) (hx : Loc X.env.scope x) (he : PE X e te) (hs : swapsWith e (some (.Name x pos')) pos.line X.env = pure false := by rfl) (hf : X.fn x = true ∨ X.env.scope.names.lookup x = some .local := by first | exact .inl rfl | exact .inr rfl | assumption) :
    PS X (.Assign [.Name x pos'] e pos) (tAsg te (gName i)) := by
  intro pins s σ H D I h
  refine wpAny_Assign_Name (thn (he pins s σ H _ I h) fun v s1 ⟨y, H1, I1, r1, q1⟩ => ?_) hs
  exact store_ok I1 hN hi hx r1 (fun s2 I2 => ⟨_, H1, I2, q1⟩) hf
end
section
variable {X : Cx} {pos : Pos}
def tWhile (c : TT) (tb : TS) : TS := fun D σ H => ∃ W : Nat → St → Hp → Prop, (∃ m, W m σ H) ∧ ∀ m σ H, W m σ H →
  c σ H fun b H1 => if b = true then ∃ N : St → Hp → Prop, (∀ σ' H', N σ' H' → ∃ m', m' < m ∧ W m' σ' H') ∧ tb { D with nx := N, ct := N, bk := D.nx } σ H1 else D.nx σ H1
theorem ps_while {c : Expr} {body : List Stmt} {tc : TT} {tb : TS} (hp : PassesOwn (model X.prog X.w) X.A X.env X.xe) (hc : PT X c tc) (hb : PSs X body tb) : PS X (.While c body [] pos) (tWhile tc tb) := by
  intro pins s σ H D I h
  obtain ⟨W, ⟨m0, w0⟩, turn⟩ := h
  refine wpAny_While (codeAny_whileLoop (fun n s' => ∃ σ' H', Inv X pins σ' H' s' ∧ W n σ' H') ?_ m0 ⟨σ, H, I, w0⟩)
  rintro n s1 ⟨σ1, H1, I1, w1⟩
  refine wpAny_passesOwn hp (thn (hc pins s1 σ1 H1 _ I1 (turn n σ1 H1 w1)) fun b s2 ⟨H2, I2, q2⟩ => ?_)
  cases b with
  | true =>
    obtain ⟨N, hN, q2⟩ := q2
    rw [if_pos rfl]
    refine wpAny_passesOwn hp (thn (hb pins s2 σ1 H2 _ I2 q2) fun f s3 q3 => ?_)
    cases f with
    | next =>
      obtain ⟨σ3, H3, I3, n3⟩ := q3
      obtain ⟨m', hm, w3⟩ := hN σ3 H3 n3
      exact ⟨m', hm, σ3, H3, I3, w3⟩
    | cont =>
      obtain ⟨σ3, H3, I3, n3⟩ := q3
      obtain ⟨m', hm, w3⟩ := hN σ3 H3 n3
      exact ⟨m', hm, σ3, H3, I3, w3⟩
    | brk => exact q3
    | ret v => exact q3
  | false =>
    rw [if_neg Bool.false_ne_true]
    exact wpAny_execs_nil ⟨σ1, H2, I2, q2⟩
end
structure It where
  go : Nat → Hp → Prop
  yld : Nat → Hp → V → Hp → Prop
  stop : Nat → Hp → Prop
def FpOk (X : Cx) (pins : List (Addr × Obj)) (H : Hp) (b : Addr) : Prop :=
  H b = none ∧ b ≠ X.env.locals ∧ b ∉ X.fs ∧ (b ∈ X.ex ∨ X.s₀.heap.objs.size ≤ b) ∧ (∀ x c, X.env.cells.lookup x = some c → c ≠ b) ∧ ∀ p ∈ X.pn ++ pins, p.1 ≠ b
theorem Inv.fpOk {X : Cx} {pins : List (Addr × Obj)} {σ : St} {H H' : Hp} {s : Shared} {b : Addr} (I : Inv X pins σ H s) (hb : s.heap.objs.size ≤ b) (hn : H' b = none) : FpOk X pins H' b := by
  refine ⟨hn, Nat.ne_of_gt (Nat.lt_of_lt_of_le I.lt hb), I.nofs hb, .inr (Nat.le_trans I.sz hb), fun x c e z => ?_, fun p hp z => ?_⟩
  · obtain ⟨v, q⟩ := I.cell x c e
    exact absurd (Nat.lt_of_lt_of_le q.lt (by rw [z]; exact hb)) (Nat.lt_irrefl _)
  · exact absurd (Nat.lt_of_lt_of_le (Heap.lt_size (I.pin p hp).1) (by rw [z]; exact hb)) (Nat.lt_irrefl _)
structure Turn (P : Program) (w : World) (K : PySem.W.Frag) (tg : Expr) (J : It) (fp : List Addr) (it : Addr) (tn : Nat → Heap → Prop) : Prop where
  mem : it ∈ fp
  obj : ∀ i h, tn i h → ∀ b ∈ fp, ∃ o, h.get? b = some o ∧ ∀ v, o.data ≠ .cell v
  keep : ∀ i h h', tn i h → (∀ b ∈ fp, ∀ o, h.get? b = some o → h'.get? b = some o) → tn i h'
  item : ∀ (X : Cx), X.prog = P → X.w = w → X.K = K → X.calm = true → ∀ (i : Nat) (pins : List (Addr × Obj)) (s : Shared) (σ : St) (H : Hp) (E : Value → Shared → Prop), Inv X pins σ H s → (∀ b ∈ fp, FpOk X pins H b) → tn i s.heap → J.go i H →
    wpAny (model P w) X.A (pyNext (.ref it)) (fun r s1 => ∃ u, r = some u ∧
      wpAny (model P w) X.A (letOwnedTupleGo tg (.ref it) u) (fun _ s2 => ∃ x H', Inv X pins σ H' s2 ∧ RelV x u ∧ J.yld i H x H' ∧ tn (i + 1) s2.heap ∧ ∀ b ∈ fp, H' b = none) E s1) E s
  done : ∀ (X : Cx), X.prog = P → X.w = w → X.K = K → X.calm = true → ∀ (i : Nat) (pins : List (Addr × Obj)) (s : Shared) (σ : St) (H : Hp) (E : Value → Shared → Prop), Inv X pins σ H s → (∀ b ∈ fp, FpOk X pins H b) → tn i s.heap → J.stop i H →
    wpAny (model P w) X.A (pyNext (.ref it)) (fun r s1 => r = none ∧ Inv X pins σ H s1) E s
  self : ∀ (A : Around) (i : Nat) (s : Shared) (Q : Value → Shared → Prop) (E : Value → Shared → Prop), tn i s.heap → Q (.ref it) s → wpAny (model P w) A (pyIter (.ref it)) Q E s
abbrev TI := St → Hp → (It → Hp → Prop) → Prop
def PIE (X : Cx) (pins : List (Addr × Obj)) (σ : St) (tg : Expr) (R : It → Hp → Prop) (itv : Value) (s2 : Shared) : Prop :=
  ∃ (it : Addr) (fp : List Addr) (tn : Nat → Heap → Prop) (J : It) (H' : Hp), itv = .ref it ∧ Inv X pins σ H' s2 ∧ Turn X.prog X.w X.K tg J fp it tn ∧ tn 0 s2.heap ∧ (∀ b ∈ fp, FpOk X pins H' b) ∧ R J H'
def PI (X : Cx) (tg iter : Expr) (wi : TI) : Prop :=
  ∀ (pins : List (Addr × Obj)) (s : Shared) (σ : St) (H : Hp) (R : It → Hp → Prop), Inv X pins σ H s → wi σ H R →
    wpAny (model X.prog X.w) X.A (eval iter X.env) (fun v s1 => wpAny (model X.prog X.w) X.A (pyIter v) (PIE X pins σ tg R) X.xe s1) X.xe s
theorem go_of {M : Model} {A : Around} {E : Value → Shared → Prop} {s : Shared} {tg : Expr} {it : Addr} {u : Value} {o : Obj} {n : String} {vs : Array Value} {Q : Unit → Shared → Prop} (ho : s.heap.get? it = some o) (hc : o.cls = .type n) (hd : o.data = .fields vs)
    (hn : ["enumerate", "zip", "dict_itemiterator", "dict_reverseitemiterator", "odict_iterator", "itertools.zip_longest", "itertools.pairwise"].contains n = false) (hQ : Q () s) : wpAny M A (letOwnedTupleGo tg (.ref it) u) Q E s := by
  unfold letOwnedTupleGo
  cases tg <;> first
    | exact wpAny_pure hQ
    | (cases u <;> first
        | exact wpAny_pure hQ
        | (refine wpAny_bind (wpAny_load ho ?_)
           rw [hc, hd]
           show wpAny M A (if (["enumerate", "zip", "dict_itemiterator", "dict_reverseitemiterator", "odict_iterator", "itertools.zip_longest", "itertools.pairwise"].contains n && vs[0]? == some (rawInt _)) = true then _ else _) Q E s
           rw [if_neg (by intro h; rw [hn, Bool.false_and] at h; cases h)]
           exact wpAny_pure hQ))
def Itl (K : PySem.W.Frag) (a : Addr) : It :=
  ⟨fun i H => ∃ xs x, SqL K H a xs ∧ xs[i]? = some x, fun i H x H' => H' = H ∧ ∀ xs, SqL K H a xs → xs[i]? = some x, fun i H => ∃ xs, SqL K H a xs ∧ xs.length ≤ i⟩
def Itr (lo : Int) (n : Nat) : It := ⟨fun i _ => i < n, fun i H x H' => H' = H ∧ x = .int (lo + i), fun i _ => n ≤ i⟩
theorem turn_list {P : Program} {w : World} {K : PySem.W.Frag} {tg : Expr} (a it : Addr) : Turn P w K tg (Itl K a) [it] it (fun i h => h.IsListIter it a i) where
  mem := by simp
  obj := fun i h st b hb => by
    have e : b = it := by simpa using hb
    subst e
    obtain ⟨o, e, c, d⟩ := st
    exact ⟨o, e, fun v z => by rw [d] at z; cases z⟩
  keep := fun i h h' st k => st.at fun o e => k it (by simp) o e
  item := by
    intro X hP hw hK hc i pins s σ H E I hf st hg
    subst hP hw hK
    obtain ⟨xs, x, hq, hx⟩ := hg
    obtain ⟨its, rv, p, hz⟩ := I.list hq
    obtain ⟨u, hu, ru⟩ := rv.get hx
    obtain ⟨f0, f1, f2, f3, f4, f5⟩ := hf it (by simp)
    refine wpAny_pyNext_list_item st p.isList (x := u) (by simpa using hu) fun h' st' sb => ?_
    have I1 : Inv X pins σ H { s with heap := h' } := I.turned (t' := s.toks) (fun b o hb e => (sb.2 b hb).trans e) f0 f1 f3 f4 f5
    obtain ⟨o, e, c, d⟩ := id st'
    exact ⟨u, rfl, go_of (s := { s with heap := h' }) e c d (by decide) ⟨x, H, I1, ru, ⟨rfl, fun ys hy => by rw [I.list_inj hy hq]; exact hx⟩, st', fun b hb => (hf b hb).1⟩⟩
  done := by
    intro X hP hw hK hc i pins s σ H E I hf st hg
    subst hP hw hK
    obtain ⟨xs, hq, hx⟩ := hg
    obtain ⟨its, rv, p, hz⟩ := I.list hq
    obtain ⟨f0, f1, f2, f3, f4, f5⟩ := hf it (by simp)
    have hl := rv.length
    exact wpAny_pyNext_list_end (I.ok.hd hc) st p.isList (by simp; omega) fun h' eb => ⟨rfl, I.turned (t' := s.toks) (fun b o hb e => eb b o hb e) f0 f1 f3 f4 f5⟩
  self := fun _ _ _ _ _ st h => wpAny_pyIter_listiter st h
theorem turn_range {P : Program} {w : World} {K : PySem.W.Frag} {tg : Expr} (it : Addr) (lo : Int) (n : Nat) : Turn P w K tg (Itr lo n) [it] it (fun i h => IsRangeIter h it (lo + (i : Nat) * 1) ((n : Int) - (i : Nat)) 1) where
  mem := by simp
  obj := fun i h st b hb => by
    have e : b = it := by simpa using hb
    subst e
    exact ⟨_, st, fun v z => by
      have z' : Data.fields _ = Data.cell v := z
      cases z'⟩
  keep := fun i h h' st k => k it (by simp) _ st
  item := by
    intro X hP hw hK hc i pins s σ H E I hf st hg
    subst hP hw hK
    obtain ⟨f0, f1, f2, f3, f4, f5⟩ := hf it (by simp)
    have W := Walks.range (prog := X.prog) (w := X.w) (I.ok.hd hc) it lo 1 n
    refine W.item i s _ _ hg st fun v h' tk hv st' kk => ?_
    obtain ⟨t, rfl⟩ := hv
    have I1 : Inv X pins σ H { s with heap := h', toks := tk } := I.turned (fun b o hb e => kk b o (by simpa using hb) e) f0 f1 f3 f4 f5
    refine ⟨_, rfl, go_of (s := { s with heap := h', toks := tk }) (n := "range_iterator") st' rfl rfl (by decide) ⟨.int (lo + i), H, I1, ⟨t, ?_⟩, ⟨rfl, rfl⟩, st', fun b hb => (hf b hb).1⟩⟩
    rw [Int.mul_one]
  done := by
    intro X hP hw hK hc i pins s σ H E I hf st hg
    subst hP hw hK
    obtain ⟨f0, f1, f2, f3, f4, f5⟩ := hf it (by simp)
    exact wpAny_pyNext_range_end (I.ok.hd hc) st (by have : n ≤ i := hg; omega) fun h' eb => ⟨rfl, I.turned (t' := s.toks) (fun b o hb e => eb b o hb e) f0 f1 f3 f4 f5⟩
  self := fun _ _ _ _ _ st h => wpAny_pyIter_rangeiter st h
end L2
namespace L2
open PySem PySem.Spec PyProof.Rows
section
variable {X : Cx} {tg : Expr}
def iList (K : PySem.W.Frag) (tl : TE) : TI := fun σ H R => tl σ H fun x H1 => ∃ a, x = .ref a ∧ (∃ xs, SqL K H1 a xs) ∧ R (Itl K a) H1
theorem pi_list {l : Expr} {tl : TE} (hl : PE X l tl) : PI X tg l (iList X.K tl) := by
  intro pins s σ H R I h
  refine thn (hl pins s σ H _ I h) fun v s1 ⟨x, H1, I1, r1, q1⟩ => ?_
  obtain ⟨a, e, ⟨xs, hq⟩, q⟩ := q1
  subst e
  cases r1
  obtain ⟨its, rv, p, hz⟩ := I1.list hq
  refine wpAny_pyIter_list p.isList ?_
  refine ⟨s1.heap.objs.size, [s1.heap.objs.size], _, _, H1, rfl, I1.kept (t' := s1.toks) fun b o e => Heap.get?_push_of_some _ e, turn_list a _, ⟨_, Heap.get?_push_size _ rfl, rfl, rfl⟩, fun b hb => ?_, q⟩
  have e : b = s1.heap.objs.size := by simpa using hb
  subst e
  exact I1.fpOk (Nat.le_refl _) (I1.hok.fresh (Nat.le_refl _))
theorem range_it {pins : List (Addr × Obj)} {σ : St} {H : Hp} {s : Shared} {R : It → Hp → Prop} {E : Value → Shared → Prop} {lo hi : Int} {t u v : Tok} {tk : Nat} (I : Inv X pins σ H s) (h1 : -(2 ^ 62) ≤ lo) (h2 : lo < 2 ^ 62) (h3 : -(2 ^ 62) ≤ hi) (h4 : hi < 2 ^ 62)
    (q : R (Itr lo (hi - lo).toNat) H) : wpAny (model X.prog X.w) X.A (pyIter (.ref s.heap.objs.size)) (PIE X pins σ tg R) E { s with heap := s.heap.push { cls := .type "range", data := .fields #[.int lo t, .int hi u, .int 1 v] }, toks := tk } := by
  refine wpAny_pyIter_range (IsRange.new ..) (small_one h1 h2 h3 h4) ?_
  have I1 : Inv X pins σ H { s with heap := s.heap.push { cls := .type "range", data := .fields #[.int lo t, .int hi u, .int 1 v] }, toks := tk } := I.kept fun b o e => Heap.get?_push_of_some _ e
  refine ⟨(s.heap.push { cls := .type "range", data := .fields #[.int lo t, .int hi u, .int 1 v] }).objs.size, [(s.heap.push { cls := .type "range", data := .fields #[.int lo t, .int hi u, .int 1 v] }).objs.size], _, _, H, rfl,
    I1.kept (t' := tk) fun b o e => Heap.get?_push_of_some _ e, turn_range _ lo (hi - lo).toNat, ?_, fun b hb => ?_, q⟩
  · have e1 : lo + ((0 : Nat) : Int) * 1 = lo := by simp
    have e2 : (((hi - lo).toNat : Nat) : Int) - ((0 : Nat) : Int) = Builtin.Range.rangeSize lo hi 1 := by rw [rangeSize_one]; split <;> omega
    show IsRangeIter _ _ (lo + ((0 : Nat) : Int) * 1) ((((hi - lo).toNat : Nat) : Int) - ((0 : Nat) : Int)) 1
    rw [e1, e2]
    exact Heap.get?_push_size _ rfl
  · have e : b = (s.heap.push { cls := .type "range", data := .fields #[.int lo t, .int hi u, .int 1 v] }).objs.size := by simpa using hb
    subst e
    exact I1.fpOk (Nat.le_refl _) (I1.hok.fresh (Nat.le_refl _))
def iRng1 (ta : TA) : TI := fun σ H R => ta σ H fun vs H1 => ∃ j : Int, vs = [.int j] ∧ -(2 ^ 62) ≤ j ∧ j < 2 ^ 62 ∧ R (Itr 0 j.toNat) H1
def iRng2 (ta : TA) : TI := fun σ H R => ta σ H fun vs H1 => ∃ i j : Int, vs = [.int i, .int j] ∧ (-(2 ^ 62) ≤ i ∧ i < 2 ^ 62 ∧ -(2 ^ 62) ≤ j ∧ j < 2 ^ 62) ∧ R (Itr i (j - i).toNat) H1
theorem pi_range1 {a : Expr} {ta : TA} {p pos : Pos} (hg : Gl X "range") (hm : X.mg "range" = none) (ha : PA X [a] ta) (hs : starEach [a] X.env = [(false, eval a X.env)] := by rfl) : PI X tg (.Call (.Name "range" p) [a] [] pos) (iRng1 ta) := by
  intro pins s σ H R I h
  refine Call_ (ld_blt I hg hm boot_range (PyProof.Rows.callWith_type1 (thn (ha pos pins s σ H _ I h) fun us s1 ⟨vs, H1, I1, r1, q1⟩ => ?_) hs rfl))
  obtain ⟨j, e, q1, q2, q⟩ := q1
  subst e
  cases r1 with
  | cons r rr =>
    cases rr
    obtain ⟨t, rfl⟩ := r
    exact call_range_1 (range_it I1 (by omega) (by omega) q1 q2 (by simpa using q))
theorem pi_range2 {a b : Expr} {ta : TA} {p pos : Pos} (hg : Gl X "range") (hm : X.mg "range" = none) (ha : PA X [a, b] ta) (hs : starEach [a, b] X.env = [(false, eval a X.env), (false, eval b X.env)] := by rfl) (hs2 : starEach [b] X.env = [(false, eval b X.env)] := by rfl) :
    PI X tg (.Call (.Name "range" p) [a, b] [] pos) (iRng2 ta) := by
  intro pins s σ H R I h
  refine Call_ (ld_blt I hg hm boot_range (PyProof.Rows.callWith_type1 (thn (ha pos pins s σ H _ I h) fun us s1 ⟨vs, H1, I1, r1, q1⟩ => ?_) (by rw [hs, hs2]) (by rw [hs2]; rfl)))
  obtain ⟨i, j, e, ⟨q1, q2, q3, q4⟩, q⟩ := q1
  subst e
  cases r1 with
  | cons r rr =>
    cases rr with
    | cons r' rr =>
      cases rr
      obtain ⟨t, rfl⟩ := r
      obtain ⟨t', rfl⟩ := r'
      exact call_range_2 (range_it I1 q1 q2 q3 q4 q)
def tFor (wi : TI) (g : TG) (tb : TS) : TS := fun D σ H => wi σ H fun J H1 => ∃ W : Nat → Nat → St → Hp → Prop, (∃ m, W 0 m σ H1) ∧ ∀ i m σ H, W i m σ H →
  (J.stop i H ∧ D.nx σ H) ∨ (J.go i H ∧ ∃ N : St → Hp → Prop, (∀ σ' H', N σ' H' → ∃ m', m' < m ∧ W (i + 1) m' σ' H') ∧ ∀ x H', J.yld i H x H' → g x σ H' fun σ2 H2 => tb { D with nx := N, ct := N, bk := D.nx } σ2 H2)
def pinsAt (fp : List Addr) (h : Heap) : List (Addr × Obj) := fp.filterMap fun b => (h.get? b).map fun o => (b, o)
theorem mem_pinsAt {fp : List Addr} {h : Heap} {b : Addr} {o : Obj} (hb : b ∈ fp) (e : h.get? b = some o) : (b, o) ∈ pinsAt fp h := List.mem_filterMap.mpr ⟨b, hb, by rw [e]; rfl⟩
theorem of_pinsAt {fp : List Addr} {h : Heap} {p : Addr × Obj} (hp : p ∈ pinsAt fp h) : p.1 ∈ fp ∧ h.get? p.1 = some p.2 := by
  obtain ⟨b, hb, e⟩ := List.mem_filterMap.mp hp
  cases q : h.get? b with
  | none => rw [q] at e; cases e
  | some o =>
    rw [q] at e
    have e' : (b, o) = p := Option.some.inj e
    subst e'
    exact ⟨hb, q⟩
theorem Inv.pinned {pins : List (Addr × Obj)} {σ : St} {H : Hp} {s : Shared} {fp : List Addr} (I : Inv X pins σ H s) (hf : ∀ b ∈ fp, FpOk X pins H b) (ho : ∀ b ∈ fp, ∃ o, s.heap.get? b = some o ∧ ∀ v, o.data ≠ .cell v) : Inv X (pins ++ pinsAt fp s.heap) σ H s :=
  I.pins_of fun p hp => (List.mem_append.mp hp).elim (fun z => I.pin p (List.mem_append_right _ z)) fun z => by
    obtain ⟨hb, e⟩ := of_pinsAt z
    obtain ⟨f0, f1, f2, _⟩ := hf p.1 hb
    obtain ⟨o, e', d⟩ := ho p.1 hb
    rw [e] at e'; cases e'
    exact ⟨e, f0, f1, f2, d⟩
theorem Inv.unpinned {pins pl : List (Addr × Obj)} {σ : St} {H : Hp} {s : Shared} (I : Inv X (pins ++ pl) σ H s) : Inv X pins σ H s := I.pins_of fun p hp => I.pin p (List.mem_append_right _ (List.mem_append_left _ hp))
theorem ps_for {iter : Expr} {body : List Stmt} {wi : TI} {g : TG} {tb : TS} {pos : Pos} (hp : PassesOwn (model X.prog X.w) X.A X.env X.xe) (hc : X.calm = true) (hi : PI X tg iter wi) (hg : PG X tg g) (hb : PSs X body tb)
    (hs : ∀ x, foldedSetIterable iter X.env x = pure x := by intro _; rfl) : PS X (.For tg iter body [] pos) (tFor wi g tb) := by
  intro pins s σ H D I h
  refine wpAny_For (thn (hi pins s σ H _ I h) fun v s1 h1 => thn h1 fun itv s2 h2 => ?_) hs
  obtain ⟨it, fp, tn, J, H2, e, I2, T, st2, f2, W, ⟨m0, w0⟩, turn⟩ := h2
  subst e
  -- what stays true of the iterator's objects through the loop
  have stat : ∀ {H' : Hp}, (∀ b ∈ fp, H' b = none) → ∀ b ∈ fp, FpOk X pins H' b := fun hn b hb => ⟨hn b hb, (f2 b hb).2⟩
  refine codeAny_forLoop_any (fun n s' => ∃ i σ' H', Inv X pins σ' H' s' ∧ tn i s'.heap ∧ (∀ b ∈ fp, H' b = none) ∧ W i n σ' H') ?_ m0 ⟨0, σ, H2, I2, st2, fun b hb => (f2 b hb).1, w0⟩
  rintro n s3 ⟨i, σ3, H3, I3, st3, fr3, w3⟩
  rcases turn i n σ3 H3 w3 with ⟨stop, qn⟩ | ⟨go, N, hN, step⟩
  · refine wpAny_passesOwn hp (thn (T.done X rfl rfl rfl hc i pins s3 σ3 H3 X.xe I3 (stat fr3) st3 stop) fun r s4 ⟨hr, I4⟩ => ?_)
    subst hr
    exact wpAny_execs_nil ⟨σ3, H3, I4, qn⟩
  · refine wpAny_passesOwn hp (thn (T.item X rfl rfl rfl hc i pins s3 σ3 H3 X.xe I3 (stat fr3) st3 go) fun r s4 ⟨u, hr, h4⟩ => ?_)
    subst hr
    refine wpAny_passesOwn hp (thn h4 fun _ s5 ⟨x, H5, I5, r5, y5, st5, fr5⟩ => ?_)
    have I5' := I5.pinned (stat fr5) (T.obj _ _ st5)
    refine wpAny_passesOwn hp (thn (hg _ s5 σ3 H5 x u _ I5' r5 (step x H5 y5)) fun _ s6 ⟨σ6, H6, I6, q6⟩ => ?_)
    refine wpAny_passesOwn hp (thn (hb _ s6 σ6 H6 _ I6 q6) fun f s7 q7 => ?_)
    have again : ∀ {σ7 : St} {H7 : Hp}, Inv X (pins ++ pinsAt fp s5.heap) σ7 H7 s7 → N σ7 H7 → ∃ m, m < n ∧ ∃ i σ' H', Inv X pins σ' H' s7 ∧ tn i s7.heap ∧ (∀ b ∈ fp, H' b = none) ∧ W i m σ' H' := fun {σ7 H7} I7 n7 => by
      obtain ⟨m', hm, w7⟩ := hN σ7 H7 n7
      refine ⟨m', hm, i + 1, σ7, H7, I7.unpinned, T.keep _ _ _ st5 fun b hb o e => (I7.pin (b, o) (List.mem_append_right _ (List.mem_append_right _ (mem_pinsAt hb e)))).1, fun b hb => ?_, w7⟩
      obtain ⟨o, e, d⟩ := T.obj _ _ st5 b hb
      exact (I7.pin (b, o) (List.mem_append_right _ (List.mem_append_right _ (mem_pinsAt hb e)))).2.1
    cases f with
    | next => obtain ⟨σ7, H7, I7, n7⟩ := q7; exact again I7 n7
    | cont => obtain ⟨σ7, H7, I7, n7⟩ := q7; exact again I7 n7
    | brk => obtain ⟨σ7, H7, I7, q7⟩ := q7; exact ⟨σ7, H7, I7.unpinned, q7⟩
    | ret v => obtain ⟨x7, σ7, H7, I7, r7, q7⟩ := q7; exact ⟨x7, σ7, H7, I7.unpinned, r7, q7⟩
end
end L2
namespace L2
open PySem PySem.Spec PyProof.Rows
abbrev R2 := V → V → Hp → VK → Prop
def OpR (X : Cx) (f : Value → Value → Sem Value) (r : R2) : Prop :=
  ∀ (pins : List (Addr × Obj)) (s : Shared) (σ : St) (H : Hp) (x y : V) (v u : Value) (Q : VK), Inv X pins σ H s → RelV x v → RelV y u → r x y H Q →
    wpAny (model X.prog X.w) X.A (f v u) (EP X pins σ Q) X.xe s
def UnR (X : Cx) (f : Value → Sem Value) (r : V → Hp → VK → Prop) : Prop :=
  ∀ (pins : List (Addr × Obj)) (s : Shared) (σ : St) (H : Hp) (x : V) (v : Value) (Q : VK), Inv X pins σ H s → RelV x v → r x H Q →
    wpAny (model X.prog X.w) X.A (f v) (EP X pins σ Q) X.xe s
def CallR (X : Cx) (f : Value) (r : List V → Hp → VK → Prop) : Prop :=
  ∀ (pins : List (Addr × Obj)) (s : Shared) (σ : St) (H : Hp) (xs : List V) (us : List Value) (Q : VK), Inv X pins σ H s → Vals xs us → r xs H Q →
    wpAny (model X.prog X.w) X.A (call f us) (EP X pins σ Q) X.xe s
def TruR (X : Cx) (r : V → Hp → (Bool → Hp → Prop) → Prop) : Prop :=
  ∀ (pins : List (Addr × Obj)) (s : Shared) (σ : St) (H : Hp) (x : V) (v : Value) (Q : Bool → Hp → Prop), Inv X pins σ H s → RelV x v → r x H Q →
    wpAny (model X.prog X.w) X.A (truthy v) (TP X pins σ Q) X.xe s
def tOp (r : R2) (ta tb : TE) : TE := fun σ H Q => ta σ H fun x H1 => tb σ H1 fun y H2 => r x y H2 Q
def tUn (r : V → Hp → VK → Prop) (ta : TE) : TE := fun σ H Q => ta σ H fun x H1 => r x H1 Q
def rI (C : Int → Int → Prop) (g : Int → Int → V) : R2 := fun x y H Q => ∃ i j, x = .int i ∧ y = .int j ∧ C i j ∧ Q (g i j) H
def rI0 (g : Int → Int → V) : R2 := fun x y H Q => ∃ i j, x = .int i ∧ y = .int j ∧ Q (g i j) H
def rU (g : Int → V) : V → Hp → VK → Prop := fun x H Q => ∃ i, x = .int i ∧ Q (g i) H
section
variable {X : Cx} {a b c : Expr} {ta tb tc : TE} {pos : Pos}
theorem binT (ha : PE X a ta) (hb : PE X b tb) {pins : List (Addr × Obj)} {s : Shared} {σ : St} {H : Hp} {R : V → V → Hp → Prop} (I : Inv X pins σ H s)
    (h : ta σ H fun x H1 => tb σ H1 fun y H2 => R x y H2) {Q : Value → Shared → Prop} {f : Value → Value → Sem Value}
    (hf : ∀ v u s2 x y H2, Inv X pins σ H2 s2 → RelV x v → RelV y u → R x y H2 → wpAny (model X.prog X.w) X.A (f v u) Q X.xe s2) :
    wpAny (model X.prog X.w) X.A (eval a X.env) (fun v s₁ => wpAny (model X.prog X.w) X.A (eval b X.env) (fun u s₂ => wpAny (model X.prog X.w) X.A (f v u) Q X.xe s₂) X.xe s₁) X.xe s := by
  refine thn (ha pins s σ H _ I h) fun v s1 ⟨x, H1, I1, r1, q1⟩ => ?_
  refine thn (hb pins s1 σ H1 _ I1 q1) fun u s2 ⟨y, H2, I2, r2, q2⟩ => ?_
  exact hf v u s2 x y H2 I2 r1 r2 q2
theorem pe_op {op : Operator} {r : R2} (ho : OpR X (binaryOp op) r) (ha : PE X a ta) (hb : PE X b tb) : PE X (.BinOp a op b pos) (tOp r ta tb) := by
  intro pins s σ H Q I h
  exact wpAny_BinOp (binT ha hb I h fun v u s2 x y H2 I2 rx ry q => ho pins s2 σ H2 x y v u Q I2 rx ry q)
theorem pe_un {op : UnaryOp} {r : V → Hp → VK → Prop} (ho : UnR X (unaryOp op) r) (ha : PE X a ta) : PE X (.UnaryOp op a pos) (tUn r ta) := by
  intro pins s σ H Q I h
  exact UnaryOp_ (thn (ha pins s σ H _ I h) fun v s1 ⟨x, H1, I1, r1, q1⟩ => ho pins s1 σ H1 x v Q I1 r1 q1)
theorem opI {f : Value → Value → Sem Value} {C : Int → Int → Prop} {g : Int → Int → Int}
    (rule : ∀ (i j : Int) (t u : Tok) (s : Shared) (Q : Value → Shared → Prop) (E : Value → Shared → Prop), C i j → Q (.int (g i j) s.toks) { s with toks := s.toks + 1 } → wpAny (model X.prog X.w) X.A (f (.int i t) (.int j u)) Q E s) :
    OpR X f (rI C fun i j => .int (g i j)) := by
  intro pins s σ H x y v u Q I rx ry h
  obtain ⟨i, j, rfl, rfl, hc, q⟩ := h
  obtain ⟨t, rfl⟩ := rx
  obtain ⟨t', rfl⟩ := ry
  exact rule i j t t' s _ _ hc ⟨.int (g i j), H, I.tok _, ⟨_, rfl⟩, q⟩
theorem opI0 {f : Value → Value → Sem Value} {g : Int → Int → Int}
    (rule : ∀ (i j : Int) (t u : Tok) (s : Shared) (Q : Value → Shared → Prop) (E : Value → Shared → Prop), Q (.int (g i j) s.toks) { s with toks := s.toks + 1 } → wpAny (model X.prog X.w) X.A (f (.int i t) (.int j u)) Q E s) :
    OpR X f (rI0 fun i j => .int (g i j)) := by
  intro pins s σ H x y v u Q I rx ry h
  obtain ⟨i, j, rfl, rfl, q⟩ := h
  obtain ⟨t, rfl⟩ := rx
  obtain ⟨t', rfl⟩ := ry
  exact rule i j t t' s _ _ ⟨.int (g i j), H, I.tok _, ⟨_, rfl⟩, q⟩
theorem opB0 {f : Value → Value → Sem Value} {g : Int → Int → Bool}
    (rule : ∀ (i j : Int) (t u : Tok) (s : Shared) (Q : Value → Shared → Prop) (E : Value → Shared → Prop), Q (.bool (g i j)) s → wpAny (model X.prog X.w) X.A (f (.int i t) (.int j u)) Q E s) :
    OpR X f (rI0 fun i j => .bl (g i j)) := by
  intro pins s σ H x y v u Q I rx ry h
  obtain ⟨i, j, rfl, rfl, q⟩ := h
  obtain ⟨t, rfl⟩ := rx
  obtain ⟨t', rfl⟩ := ry
  exact rule i j t t' s _ _ ⟨.bl (g i j), H, I, rfl, q⟩
def CDiv (i j : Int) : Prop := 0 < j ∧ j < 1073741824
def CPow (i j : Int) : Prop := 0 ≤ j ∧ j ≤ 1000000 ∧ i.natAbs < 2 ^ 64
def CMul (i j : Int) : Prop := (-(2 ^ 64) < i ∧ i < 2 ^ 64) ∨ (-(2 ^ 64) < j ∧ j < 2 ^ 64)
theorem CMul.ok {i j : Int} (h : CMul i j) : IntMulOk i j := by
  rcases h with ⟨h1, h2⟩ | ⟨h1, h2⟩
  · exact .of_left (intBits_le_64 h1 h2)
  · exact .of_right (intBits_le_64 h1 h2)
theorem two_pow_nn (k : Nat) : (0 : Int) ≤ 2 ^ k := by
  rw [two_pow_cast]
  exact Int.natCast_nonneg _
theorem op_add : OpR X (binaryOp .Add) (rI0 fun i j => .int (i + j)) := opI0 fun _ _ _ _ _ _ _ q => add_int q
theorem op_sub : OpR X (binaryOp .Sub) (rI0 fun i j => .int (i - j)) := opI0 fun _ _ _ _ _ _ _ q => sub_int q
theorem op_mul : OpR X (binaryOp .Mult) (rI CMul fun i j => .int (i * j)) := opI fun _ _ _ _ _ _ _ hc q => mul_int q hc.ok
theorem op_fdiv : OpR X (binaryOp .FloorDiv) (rI CDiv fun i j => .int (i / j)) := opI fun i j _ _ _ _ _ hc q => by
  have h1 : (0 : Int) < j := hc.1
  have h2 : j < 1073741824 := hc.2
  exact floordiv_int (by omega) (by rw [Int.fdiv_eq_ediv_of_nonneg i (by omega)]; exact q) (.inl (PyProof.noPylong_small (by omega)))
theorem op_mod : OpR X (binaryOp .Mod) (rI (fun _ j => 0 < j) fun i j => .int (i % j)) := opI fun i j _ _ _ _ _ hc q => by
  have h1 : (0 : Int) < j := hc
  exact mod_int' (by omega) (by rw [Int.fmod_eq_emod_of_nonneg i (by omega)]; exact q)
theorem op_shl : OpR X (binaryOp .LShift) (rI CPow fun i j => .int (i * 2 ^ j.toNat)) := opI fun _ _ _ _ _ _ _ hc q => lshift_int_small hc.1 hc.2.1 hc.2.2 q
theorem op_shr : OpR X (binaryOp .RShift) (rI (fun _ j => 0 ≤ j) fun i j => .int (i / 2 ^ j.toNat)) := opI fun i j _ _ _ _ _ hc q =>
  rshift_int hc (by rw [Int.fdiv_eq_ediv_of_nonneg i (two_pow_nn _)]; exact q)
theorem op_and : OpR X (binaryOp .BitAnd) (rI0 fun i j => .int (Builtin.bitAnd i j)) := opI0 fun _ _ _ _ _ _ _ q => and_int q
theorem unI {f : Value → Sem Value} {g : Int → Int}
    (rule : ∀ (i : Int) (t : Tok) (s : Shared) (Q : Value → Shared → Prop) (E : Value → Shared → Prop), Q (.int (g i) s.toks) { s with toks := s.toks + 1 } → wpAny (model X.prog X.w) X.A (f (.int i t)) Q E s) :
    UnR X f (rU fun i => .int (g i)) := by
  intro pins s σ H x v Q I rx h
  obtain ⟨i, rfl, q⟩ := h
  obtain ⟨t, rfl⟩ := rx
  exact rule i t s _ _ ⟨.int (g i), H, I.tok _, ⟨_, rfl⟩, q⟩
theorem un_neg : UnR X (unaryOp .USub) (rU fun i => .int (-i)) := unI fun _ _ _ _ _ q => neg_int q
end
def scal : V → V → Bool
  | .non, .non => true | .non, .int _ => true | .int _, .non => true | .non, .bl _ => true | .bl _, .non => true | .non, .str _ => true | .str _, .non => true
  | .int _, .int _ => true | .bl _, .bl _ => true | .str _, .str _ => true | .byt _, .byt _ => true
  | .int _, .str _ => true | .str _, .int _ => true | .bl _, .str _ => true | .str _, .bl _ => true
  | _, _ => false
def rEq : R2 := fun x y H Q => scal x y = true ∧ Q (.bl (decide (x = y))) H
def rNe : R2 := fun x y H Q => scal x y = true ∧ Q (.bl (!decide (x = y))) H
theorem dec_int {i j : Int} : decide (V.int i = V.int j) = (i == j) := by
  rw [Bool.eq_iff_iff]
  simp
theorem dec_bl {i j : Bool} : decide (V.bl i = V.bl j) = (i == j) := by
  rw [Bool.eq_iff_iff]
  simp
theorem dec_str {i j : Str} : decide (V.str i = V.str j) = (i == j) := by
  rw [Bool.eq_iff_iff]
  simp
theorem dec_byt {i j : Array UInt8} : decide (V.byt i = V.byt j) = (i.toList == j.toList) := by
  rw [Bool.eq_iff_iff]
  cases i
  cases j
  simp
section
variable {X : Cx} {a b c : Expr} {ta tb tc : TE} {pos : Pos}
theorem fin_bl {pins : List (Addr × Obj)} {σ : St} {H : Hp} {s : Shared} {Q : VK} {k k' : Bool} (I : Inv X pins σ H s) (q : Q (.bl k) H) (e : k = k') : EP X pins σ Q (.bool k') s := by
  subst e
  exact ⟨.bl k, H, I, rfl, q⟩
theorem op_eq : OpR X (compareOp .Eq) rEq := by
  intro pins s σ H x y v u Q I rx ry h
  obtain ⟨hs, q⟩ := h
  cases x with
  | non =>
    cases rx
    cases y with
    | non => cases ry; exact PySem.EqNone.eq_none_none (fin_bl I q (by simp))
    | bl j => cases ry; exact PySem.EqNone.eq_none_bool (fin_bl I q (by simp))
    | int j => obtain ⟨t', rfl⟩ := ry; exact PySem.EqNone.eq_none_int (fin_bl I q (by simp))
    | str j => obtain ⟨t', rfl⟩ := ry; exact PySem.EqNone.eq_none_str (fin_bl I q (by simp))
    | _ => exact absurd (show false = true from hs) Bool.false_ne_true
  | bl i =>
    cases rx
    cases y with
    | non => cases ry; exact PySem.EqNone.eq_bool_none (fin_bl I q (by simp))
    | bl j => cases ry; exact eq_bool (fin_bl I q dec_bl)
    | str j => obtain ⟨t', rfl⟩ := ry; exact PySem.EqMixed.eq_bool_str (fin_bl I q (by simp))
    | _ => exact absurd (show false = true from hs) Bool.false_ne_true
  | int i =>
    obtain ⟨t, rfl⟩ := rx
    cases y with
    | non => cases ry; exact PySem.EqNone.eq_int_none (fin_bl I q (by simp))
    | int j => obtain ⟨t', rfl⟩ := ry; exact eq_int (fin_bl I q dec_int)
    | str j => obtain ⟨t', rfl⟩ := ry; exact PySem.EqMixed.eq_int_str (fin_bl I q (by simp))
    | _ => exact absurd (show false = true from hs) Bool.false_ne_true
  | str i =>
    obtain ⟨t, rfl⟩ := rx
    cases y with
    | non => cases ry; exact PySem.EqNone.eq_str_none (fin_bl I q (by simp))
    | bl j => cases ry; exact PySem.EqMixed.eq_str_bool (fin_bl I q (by simp))
    | int j => obtain ⟨t', rfl⟩ := ry; exact PySem.EqMixed.eq_str_int (fin_bl I q (by simp))
    | str j => obtain ⟨t', rfl⟩ := ry; exact eq_str (fin_bl I q dec_str)
    | _ => exact absurd (show false = true from hs) Bool.false_ne_true
  | byt i =>
    obtain ⟨t, rfl⟩ := rx
    cases y with
    | byt j => obtain ⟨t', rfl⟩ := ry; exact PySem.W.eq_bytes (fin_bl I q dec_byt)
    | _ => exact absurd (show false = true from hs) Bool.false_ne_true
  | _ => cases y <;> exact absurd (show false = true from hs) Bool.false_ne_true
theorem op_ne : OpR X (compareOp .NotEq) rNe := by
  intro pins s σ H x y v u Q I rx ry h
  obtain ⟨hs, q⟩ := h
  cases x with
  | non =>
    cases rx
    cases y with
    | non => cases ry; exact PySem.EqNone.ne_none_none (fin_bl I q (by simp))
    | bl j => cases ry; exact PySem.EqNone.ne_none_bool (fin_bl I q (by simp))
    | int j => obtain ⟨t', rfl⟩ := ry; exact PySem.EqNone.ne_none_int (fin_bl I q (by simp))
    | str j => obtain ⟨t', rfl⟩ := ry; exact PySem.EqNone.ne_none_str (fin_bl I q (by simp))
    | _ => exact absurd (show false = true from hs) Bool.false_ne_true
  | bl i =>
    cases rx
    cases y with
    | non => cases ry; exact PySem.EqNone.ne_bool_none (fin_bl I q (by simp))
    | bl j => cases ry; exact ne_bool (fin_bl I q (congrArg not dec_bl))
    | str j => obtain ⟨t', rfl⟩ := ry; exact PySem.EqMixed.ne_bool_str (fin_bl I q (by simp))
    | _ => exact absurd (show false = true from hs) Bool.false_ne_true
  | int i =>
    obtain ⟨t, rfl⟩ := rx
    cases y with
    | non => cases ry; exact PySem.EqNone.ne_int_none (fin_bl I q (by simp))
    | int j => obtain ⟨t', rfl⟩ := ry; exact ne_int (fin_bl I q (congrArg not dec_int))
    | str j => obtain ⟨t', rfl⟩ := ry; exact PySem.EqMixed.ne_int_str (fin_bl I q (by simp))
    | _ => exact absurd (show false = true from hs) Bool.false_ne_true
  | str i =>
    obtain ⟨t, rfl⟩ := rx
    cases y with
    | non => cases ry; exact PySem.EqNone.ne_str_none (fin_bl I q (by simp))
    | bl j => cases ry; exact PySem.EqMixed.ne_str_bool (fin_bl I q (by simp))
    | int j => obtain ⟨t', rfl⟩ := ry; exact PySem.EqMixed.ne_str_int (fin_bl I q (by simp))
    | str j => obtain ⟨t', rfl⟩ := ry; exact ne_str (fin_bl I q (congrArg not dec_str))
    | _ => exact absurd (show false = true from hs) Bool.false_ne_true
  | byt i =>
    obtain ⟨t, rfl⟩ := rx
    cases y with
    | byt j => obtain ⟨t', rfl⟩ := ry; exact PySem.W.ne_bytes (fin_bl I q (congrArg not dec_byt))
    | _ => exact absurd (show false = true from hs) Bool.false_ne_true
  | _ => cases y <;> exact absurd (show false = true from hs) Bool.false_ne_true
theorem op_lt : OpR X (compareOp .Lt) (rI0 fun i j => .bl (decide (i < j))) := opB0 fun _ _ _ _ _ _ _ q => lt_int q
theorem op_le : OpR X (compareOp .LtE) (rI0 fun i j => .bl (decide (i ≤ j))) := opB0 fun _ _ _ _ _ _ _ q => le_int q
theorem op_gt : OpR X (compareOp .Gt) (rI0 fun i j => .bl (decide (j < i))) := opB0 fun _ _ _ _ _ _ _ q => gt_int q
theorem nomark (b : Expr) {op : CmpOp} (h : op ≠ .In := by decide) (h2 : op ≠ .NotIn := by decide) : behindInMarks op b = false := by
  have e1 : (op == CmpOp.In) = false := by cases op <;> first | rfl | exact absurd rfl h
  have e2 : (op == CmpOp.NotIn) = false := by cases op <;> first | rfl | exact absurd rfl h2
  cases b <;> simp [behindInMarks, e1, e2]
theorem pe_cmpR {op : CmpOp} {r : R2} (ho : OpR X (compareOp op) r) (ha : PE X a ta) (hb : PE X b tb) (hm : behindInMarks op b = false) : PE X (.Compare a [op] [b] pos) (tOp r ta tb) := by
  intro pins s σ H Q I h
  exact wpAny_Compare1 (binT ha hb I h fun v u s2 x y H2 I2 rx ry q => ho pins s2 σ H2 x y v u Q I2 rx ry q) hm
def tTest (t : TE) : TT := fun σ H Q => t σ H fun x H' => ∃ k, x = .bl k ∧ Q k H'
theorem pt_cmpR {op : CmpOp} {r : R2} (ho : OpR X (compareOp op) r) (ha : PE X a ta) (hb : PE X b tb) (hm : behindInMarks op b = false) : PT X (.Compare a [op] [b] pos) (tTest (tOp r ta tb)) := by
  intro pins s σ H Q I h
  refine wpAny_isTrue_Compare1 (thn (ha pins s σ H _ I h) fun v s1 ⟨x, H1, I1, r1, q1⟩ => thn (hb pins s1 σ H1 _ I1 q1) fun u s2 ⟨y, H2, I2, r2, q2⟩ =>
    thn (ho pins s2 σ H2 x y v u _ I2 r1 r2 q2) fun c s3 ⟨z, H3, I3, r3, k, e, q3⟩ => ?_) hm
  subst e
  cases r3
  exact wpAny_truthy_bool ⟨H3, I3, q3⟩
def tChain (r r' : R2) (ta tb tc : TE) : TE := fun σ H Q => ta σ H fun x H1 => tb σ H1 fun y H2 => r x y H2 fun z H3 => ∃ k, z = .bl k ∧
  (if k = true then tc σ H3 fun w' H4 => r' y w' H4 Q else Q (.bl false) H3)
theorem pe_chain {op op' : CmpOp} {r r' : R2} (ho : OpR X (compareOp op) r) (ho' : OpR X (compareOp op') r') (ha : PE X a ta) (hb : PE X b tb) (hc : PE X c tc)
    (hm : lastMarks [op, op'] [b, c] = false := by with_unfolding_all rfl) : PE X (.Compare a [op, op'] [b, c] pos) (tChain r r' ta tb tc) := by
  intro pins s σ H Q I h
  refine Compare_chain (thn (ha pins s σ H _ I h) fun v s1 ⟨x, H1, I1, r1, q1⟩ => chain_link (thn (hb pins s1 σ H1 _ I1 q1) fun u s2 ⟨y, H2, I2, r2, q2⟩ =>
    thn (ho pins s2 σ H2 x y v u _ I2 r1 r2 q2) fun d s3 ⟨z, H3, I3, r3, k, e, q3⟩ => ?_)) hm
  subst e
  cases r3
  refine wpAny_truthy_bool ?_
  cases k with
  | false => exact ite_ff ⟨.bl false, H3, I3, rfl, q3⟩
  | true => exact ite_tt (chain_last (thn (hc pins s3 σ H3 _ I3 q3) fun w' s4 ⟨z', H4, I4, r4, q4⟩ => ho' pins s4 σ H4 y z' u w' Q I4 r2 r4 q4))
def TruV (K : PySem.W.Frag) (x : V) (H : Hp) (k : Bool) : Prop :=
  match x with
  | .non => k = false
  | .bl b => k = b
  | .int i => k = (i != 0)
  | .str y => y.length ≤ sizeLine ∧ k = ((y.length : Int) != 0)
  | .byt y => y.size ≤ sizeLine ∧ k = ((y.size : Int) != 0)
  | .ref p => (∃ xs, SqL K H p xs ∧ k = !xs.isEmpty) ∨ (∃ xs, SqT K H p xs ∧ k = !xs.isEmpty) ∨ ∃ kvs, H p = some (.dK kvs) ∧ k = !kvs.isEmpty
  | _ => False
theorem isEmpty_kv {κ : Type} {kvs : List (κ × V)} {vs : List (κ × Value)} (r : KV kvs vs) : (!vs.isEmpty) = !kvs.isEmpty := by
  cases r <;> rfl
theorem isEmpty_of {xs : List V} {its : List Value} (r : Vals xs its) : (!its.toArray.isEmpty) = !xs.isEmpty := by
  cases r <;> simp
theorem line63 : (sizeLine : Nat) < 2 ^ 63 := by rw [sizeLine_eq]; decide
theorem tru_ok : TruR X (fun x H Q => ∃ k, TruV X.K x H k ∧ Q k H) := by
  intro pins s σ H x v Q I rx h
  obtain ⟨k, e, q⟩ := h
  have hl := line63
  have hs : sizeLine = 16777216 := sizeLine_eq
  cases x with
  | non =>
    cases rx
    have e' : k = false := e
    subst e'
    exact truthy_none ⟨H, I, q⟩
  | bl b =>
    cases rx
    have e' : k = b := e
    subst e'
    exact wpAny_truthy_bool ⟨H, I, q⟩
  | int i =>
    obtain ⟨t, rfl⟩ := rx
    have e' : k = (i != 0) := e
    subst e'
    exact PySem.P.truthy_int ⟨H, I, q⟩
  | str y =>
    obtain ⟨t, rfl⟩ := rx
    obtain ⟨hy, e'⟩ : y.length ≤ sizeLine ∧ k = ((y.length : Int) != 0) := e
    subst e'
    exact PySem.P.truthy_str (by omega) ⟨H, I.tok _, q⟩
  | byt y =>
    obtain ⟨t, rfl⟩ := rx
    obtain ⟨hy, e'⟩ : y.size ≤ sizeLine ∧ k = ((y.size : Int) != 0) := e
    subst e'
    exact PySem.W.truthy_bytes (by omega) ⟨H, I.tok _, q⟩
  | ref p =>
    cases rx
    have e' : (∃ xs, SqL X.K H p xs ∧ k = !xs.isEmpty) ∨ (∃ xs, SqT X.K H p xs ∧ k = !xs.isEmpty) ∨ ∃ kvs, H p = some (.dK kvs) ∧ k = !kvs.isEmpty := e
    rcases e' with ⟨xs, hx, e'⟩ | ⟨xs, hx, e'⟩ | ⟨kvs, hx, e'⟩
    · subst e'
      obtain ⟨its, r, pl, hz⟩ := I.list hx
      have hlen := r.length
      exact wpAny_truthy_list pl.isList (by simp only [List.size_toArray]; omega) ⟨H, I.tok _, by rw [isEmpty_of r]; exact q⟩
    · subst e'
      obtain ⟨its, r, pl, hz⟩ := I.tuple hx
      have hlen := r.length
      exact truthy_tuple pl (by simp only [List.size_toArray]; omega) ⟨H, I.tok _, by rw [isEmpty_of r]; exact q⟩
    · subst e'
      obtain ⟨hz, hS, vs, r, m⟩ : kvs.length ≤ sizeLine ∧ (p == sysModules) = false ∧ ∃ vs, KV kvs vs ∧ s.heap.DictOf (mixKind X.prog X.w) p vs := I.hok p _ hx
      have hlen : kvs.length = vs.length := Paired.length r
      exact wpAny_truthy_dict hS m (by omega) ⟨H, I.tok _, by rw [isEmpty_kv r]; exact q⟩
  | _ => exact (show False from e).elim
theorem pt_truth (ha : PE X a ta) (he : ∀ whole, isTrue a X.env whole = (do let v ← whole; standAt a.pos; holding [v] (truthy v))) :
    PT X a (fun σ H Q => ta σ H fun x H' => ∃ k, TruV X.K x H' k ∧ Q k H') := by
  intro pins s σ H Q I h
  exact isTrue_plain (thn (ha pins s σ H _ I h) fun v s1 ⟨x, H1, I1, r1, q1⟩ => tru_ok pins s1 σ H1 x v Q I1 r1 q1) (he _)
theorem vals1 {x : V} {us : List Value} (r : Vals [x] us) : ∃ u, us = [u] ∧ RelV x u := by
  cases r with
  | cons r1 r2 => cases r2; exact ⟨_, rfl, r1⟩
theorem vals2 {x y : V} {us : List Value} (r : Vals [x, y] us) : ∃ u w', us = [u, w'] ∧ RelV x u ∧ RelV y w' := by
  cases r with
  | cons r1 r2 =>
    cases r2 with
    | cons r3 r4 => cases r4; exact ⟨_, _, rfl, r1, r3⟩
theorem call_abs : CallR X (.builtin "abs") (fun xs H Q => ∃ i, xs = [.int i] ∧ Q (.int (if i < 0 then -i else i)) H) := by
  intro pins s σ H xs us Q I r h
  obtain ⟨i, rfl, q⟩ := h
  obtain ⟨u, rfl, t, rfl⟩ := vals1 r
  exact call_abs_int fun u tk => ⟨.int (if i < 0 then -i else i), H, I.tok _, ⟨_, rfl⟩, q⟩
theorem call_int1 : CallR X (.type "int") (fun xs H Q => (∃ i, xs = [.int i] ∧ Q (.int i) H) ∨ ∃ k, xs = [.bl k] ∧ Q (.int (if k then 1 else 0)) H) := by
  intro pins s σ H xs us Q I r h
  rcases h with ⟨i, rfl, q⟩ | ⟨k, rfl, q⟩
  · obtain ⟨u, rfl, t, rfl⟩ := vals1 r
    exact call_int_int ⟨.int i, H, I, ⟨_, rfl⟩, q⟩
  · obtain ⟨u, rfl, r1⟩ := vals1 r
    cases r1
    exact call_int_bool ⟨.int (if k then 1 else 0), H, I.tok _, ⟨_, rfl⟩, q⟩
end
end L2
namespace L2
open PySem PySem.Spec PyProof.Rows
structure ObjM (h : Heap) (x dx C : Addr) (mA : Str → Option Value) : Prop where
  obj : h.get? x = some (PySem.W.instObj C dx)
  ns : h.Ns1 dx mA
  ne : dx ≠ x
theorem lookIn_ns {h : Heap} {dx : Addr} {mA : Str → Option Value} (n : h.Ns1 dx mA) : ∃ od, h.get? dx = some od ∧ ∀ name, PySem.W.lookIn name od = some (mA name) := by
  obtain ⟨o, es, ep, ho, hd, hk, _, hm⟩ := n
  refine ⟨o, ho, fun name => ?_⟩
  have e := hm name
  unfold nsFind findBy at e
  rw [← Array.find?_toList] at e
  unfold PySem.W.lookIn
  rw [hd]
  dsimp only
  split
  · rename_i y q
    rw [q] at e
    exact congrArg some e
  · rename_i q
    rw [q] at e
    have a : es.toList.any (·.refKey) = false := by
      rw [List.any_eq_false]
      intro y hy
      obtain ⟨z, t, hkey⟩ := hk y (Array.mem_toList_iff.mp hy)
      simp [DictEntry.refKey, hkey]
    have a' : ¬ es.toList.any (·.refKey) = true := by rw [a]; exact Bool.false_ne_true
    rw [if_neg a']
    exact congrArg some e
theorem ObjM.look {h : Heap} {x dx C : Addr} {mA : Str → Option Value} (I : ObjM h x dx C mA) : ∃ od, PySem.W.InstAt h x (PySem.W.instObj C dx) C (some od) ∧ ∀ name, PySem.W.lookIn name od = some (mA name) :=
  let ⟨od, ho, hl⟩ := lookIn_ns I.ns
  ⟨od, ⟨I.obj, rfl, rfl, ho⟩, hl⟩
section
variable {prog : Program} {w : World} {A : Around} {E : Value → Shared → Prop} {s : Shared} {K : PySem.W.Frag} {x dx C f : Addr} {mA : Str → Option Value} {name : Str} {v : Value}
end
def putF (f : Str) (v : V) : List (Str × V) → List (Str × V)
  | [] => [(f, v)]
  | (g, x) :: r => if g = f then (g, v) :: r else (g, x) :: putF f v r
theorem RelO.none_of {o : Option Value} (r : RelO none o) : o = none := by
  cases o with
  | none => rfl
  | some u => exact (show False from r).elim
section
variable {P : Program} {w : World} {H H' : Hp} {h h' : Heap} {a C dx : Addr} {fs fs' : List (Str × V)}
theorem ins_get (hok : HOk P w H h) (e : H a = some (.ins C dx fs)) : ∃ mA, ObjM h a dx C mA ∧ (∀ f, RelO (fs.lookup f) (mA f)) ∧ PySem.Within mA (fs.map (·.1)) ∧ fs.length ≤ 1000 ∧ H dx = some (.own a) := by
  obtain ⟨d, z, ne, ob, mA, n, r, q⟩ := (show ObjOk P w H h a (.ins C dx fs) from hok a _ e)
  exact ⟨mA, ⟨ob, n, ne⟩, r, q, z, d⟩
end
structure Cls (K : PySem.W.Frag) (C : Addr) : Prop where
  pg : PySem.W.plainGet K C Str.empty = true
  hd : PySem.W.hasDictIn K C = true
  po : PySem.W.plainOver K C = true
  sa : PySem.W.findIn K (.ref C) "__setattr__" = some (some (.builtin "object.__setattr__"))
theorem Cls.get {K : PySem.W.Frag} {C : Addr} (c : Cls K C) (f : Str) : PySem.W.plainGet K C f = true := c.pg
structure Con (K : PySem.W.Frag) (C : Addr) (f : Str) (v : V) (u : Value) : Prop where
  at_ : PySem.W.findIn K (.ref C) f = some (some u)
  rel : RelV v u
  get : PySem.W.specialIn K u "__get__" = some none
  cp : PySem.W.copiedNames.contains f = false
structure Meth (K : PySem.W.Frag) (C : Addr) (m : Str) (f : Addr) : Prop where
  at_ : PySem.W.findIn K (.ref C) m = some (some (.ref f))
  fn : PySem.W.isFn K (.ref f) = true
  kp : PySem.W.keepIn K (.ref f) = true
section
variable {X : Cx} {pins : List (Addr × Obj)} {σ : St} {H : Hp} {s : Shared} {a C dx : Addr} {fs : List (Str × V)} {f : Str} {v : V} {A : Around} {E : Value → Shared → Prop}
end
section
variable {X : Cx} {o e value : Expr} {f : Str} {pos pos' tpos : Pos} {ta tv : TE}
end
section
variable {X : Cx} {pins : List (Addr × Obj)} {σ : St} {H : Hp} {s : Shared} {A : Around} {E : Value → Shared → Prop} {Q : Value → Shared → Prop} {c : Value} {b : Bool}
inductive TyOf (K : PySem.W.Frag) (H : Hp) : V → Value → Prop where
  | non : TyOf K H .non (.type "NoneType")
  | bl (x : Bool) : TyOf K H (.bl x) (.type "bool")
  | int (i : Int) : TyOf K H (.int i) (.type "int")
  | str (x : Str) : TyOf K H (.str x) (.type "str")
  | flt (x : UInt64) : TyOf K H (.flt x) (.type "float")
  | lst {a : Addr} {xs : List V} (e : H a = some (.lst xs)) : TyOf K H (.ref a) (.type "list")
  | frz {a : Addr} {o : Obj} {xs : List V} (e : H a = some (.frz o (.lst xs))) : TyOf K H (.ref a) (.type "list")
  | tup {a : Addr} {xs : List V} (e : H a = some (.tup xs)) : TyOf K H (.ref a) (.type "tuple")
  | dK {a : Addr} {kvs : List (Key × V)} (e : H a = some (.dK kvs)) : TyOf K H (.ref a) (.type "dict")
  | dT {a : Addr} {kvs : List (List Key × V)} (e : H a = some (.dT kvs)) : TyOf K H (.ref a) (.type "dict")
  | ins {a C dx : Addr} {fs : List (Str × V)} (e : H a = some (.ins C dx fs)) (cl : Cls K C) (ha : PySem.W.findIn K (.ref C) "__class__" = some (some (.builtin "object.__class__")))
      (hn : PySem.W.specialIn K (.builtin "object.__class__") "__get__" = some (some (.builtin "getset_descriptor.__get__"))) (htk : PySem.W.takesIn K (.builtin "object.__class__") = some true)
      (hm : PySem.W.mroIn K C (.type "object") = some true) : TyOf K H (.ref a) (.ref C)
theorem isinst_ok {x : V} {u t : Value} (I : Inv X pins σ H s) (rx : RelV x u) (ty : TyOf X.K H x t) (e : PySem.W.kitOne X.K t c = some b) (h : ∀ tk, Q (.bool b) { s with toks := tk }) :
    wpAny (model X.prog X.w) A (call (.builtin "isinstance") [u, c]) Q E s := by
  cases ty with
  | non => cases (show u = Value.none from rx); exact PySem.W.kia_one PySem.W.kitx_none I.kIn True.intro e (fun z => nomatch z) h
  | bl y => cases (show u = Value.bool y from rx); exact PySem.W.kia_one PySem.W.kitx_bool I.kIn True.intro e (fun z => nomatch z) h
  | int i => obtain ⟨t, q⟩ := (show ∃ t, u = Value.int i t from rx); cases q; exact PySem.W.kia_one PySem.W.kitx_int I.kIn True.intro e (fun z => nomatch z) h
  | str y => obtain ⟨t, q⟩ := (show ∃ t, u = Value.str y t from rx); cases q; exact PySem.W.kia_one PySem.W.kitx_str I.kIn True.intro e (fun z => nomatch z) h
  | flt y => obtain ⟨t, q⟩ := (show ∃ t, u = Value.float y t from rx); cases q; exact PySem.W.kia_one PySem.W.kitx_float I.kIn True.intro e (fun z => nomatch z) h
  | @lst a xs ea =>
    cases (show u = Value.ref a from rx)
    obtain ⟨_, _, n, _, h1⟩ := (show ObjOk X.prog X.w H s.heap a (.lst xs) from I.hok a _ ea)
    exact PySem.W.kia_one PySem.W.kitx_list I.kIn ⟨_, h1, rfl⟩ e (fun z => nomatch z) h
  | @frz a ob xs ea =>
    cases (show u = Value.ref a from rx)
    obtain ⟨_, _, _, n, _, h1⟩ := (show ObjOk X.prog X.w H s.heap a (.frz ob (.lst xs)) from I.hok a _ ea)
    exact PySem.W.kia_one PySem.W.kitx_list I.kIn ⟨_, h1, rfl⟩ e (fun z => nomatch z) h
  | @tup a xs ea =>
    cases (show u = Value.ref a from rx)
    obtain ⟨_, _, _, p⟩ := (show ObjOk X.prog X.w H s.heap a (.tup xs) from I.hok a _ ea)
    obtain ⟨o, h1, h2, _⟩ := p
    exact PySem.W.kia_one PySem.W.kitx_tuple I.kIn ⟨o, h1, h2⟩ e (fun z => nomatch z) h
  | @dK a kvs ea =>
    cases (show u = Value.ref a from rx)
    obtain ⟨_, _, vs, _, p⟩ := (show ObjOk X.prog X.w H s.heap a (.dK kvs) from I.hok a _ ea)
    obtain ⟨o, es, ep, h1, h2, _⟩ := p
    exact PySem.W.kia_one PySem.W.kitx_dict I.kIn ⟨o, h1, h2.1⟩ e (fun z => nomatch z) h
  | @dT a kvs ea =>
    cases (show u = Value.ref a from rx)
    obtain ⟨_, _, xs, _, o, es, ep, h1, h2, _⟩ := (show ObjOk X.prog X.w H s.heap a (.dT kvs) from I.hok a _ ea)
    exact PySem.W.kia_one PySem.W.kitx_dict I.kIn ⟨o, h1, h2.1⟩ e (fun z => nomatch z) h
  | @ins a C dx fs ea cl ha hn htk hm =>
    cases (show u = Value.ref a from rx)
    obtain ⟨mA, O, _⟩ := ins_get I.hok ea
    obtain ⟨od, J, _⟩ := O.look
    exact PySem.W.kia_one (PySem.W.kitx_own (cl.get _) cl.hd ha hn htk hm) I.kIn J e (fun z => nomatch z) h
end
end L2
namespace L2
open PySem PySem.Spec PyProof.Rows
structure Room (k : Nat) (A : Around) : Prop where
  hd : A.handled = none
  dp : A.depth + 3 * k + 5 < recursionLimit
  un : A.units + 16 * k + 200 < cLine
  gd : A.guards = some []
theorem Room.mono {j k : Nat} {A : Around} (r : Room k A) (h : j ≤ k) : Room j A := ⟨r.hd, by have := r.dp; omega, by have := r.un; omega, r.gd⟩
theorem Room.deeper {k : Nat} {A : Around} (r : Room (k + 1) A) (env : Env) : Room k (A.deeper env) :=
  ⟨r.hd, by have := r.dp; show A.depth + 1 + 3 * k + 5 < _; omega, by have := r.un; show A.units + 3 + 16 * k + 200 < _; omega, r.gd⟩
theorem Room.in1 {k : Nat} {A : Around} (r : Room (k + 1) A) : Room k A.in1 :=
  ⟨r.hd, by have := r.dp; show A.depth + 3 * k + 5 < _; omega, by have := r.un; show A.units + 1 + 16 * k + 200 < _; omega, r.gd⟩
theorem Room.depth {k : Nat} {A : Around} (r : Room k A) : A.depth < recursionLimit := by have := r.dp; omega
theorem Room.units {k : Nat} {A : Around} (r : Room k A) : A.units + 64 < cLine := by have := r.un; omega
theorem Room.units0 {k : Nat} {A : Around} (r : Room k A) : A.units < cLine := by have := r.un; omega
def tNil : TA := fun _ H Q => Q [] H
def tCons (ta : TE) (tr : TA) : TA := fun σ H Q => ta σ H fun x H1 => tr σ H1 fun xs H2 => Q (x :: xs) H2
section
variable {X : Cx} {e : Expr} {es : List Expr} {te : TE} {t : TA} {pos : Pos}
theorem pa_nil : PA X [] tNil := fun _ _ _ _ H Q I h => Calls.spliced_nil ⟨[], H, I, .nil, h⟩
theorem pa_cons (ha : PE X e te) (hr : PA X es t) (hs : starEach (e :: es) X.env = (false, eval e X.env) :: starEach es X.env := by rfl) : PA X (e :: es) (tCons te t) := by
  intro pos pins s σ H Q I h
  rw [hs]
  show wpAny _ _ (spliced ((false, eval e X.env) :: backTo pos (starEach es X.env))) _ _ s
  refine Calls.spliced_cons (thn (ha pins s σ H _ I h) fun u s1 ⟨x, H1, I1, r1, q1⟩ => ?_)
  exact thn (hr pos pins s1 σ H1 _ I1 q1) fun us s2 ⟨xs, H2, I2, r2, q2⟩ => ⟨x :: xs, H2, I2, .cons r1 r2, q2⟩
def tTup (t : TA) : TE := fun σ H Q => t σ H fun xs H1 => xs.length ≤ sizeLine ∧ ∀ p, H1 p = none → Q (.ref p) (upd H1 p (.tup xs))
def tLst (t : TA) : TE := fun σ H Q => t σ H fun xs H1 => xs.length ≤ sizeLine ∧ ∀ p, H1 p = none → Q (.ref p) (upd H1 p (.lst xs))
theorem pe_tup {x1} (h : PA X es t) : PE X (.Tuple es x1 pos) (tTup t) := by
  intro pins s σ H Q I hq
  refine wpAny_Tuple_spliced (thn (h pos pins s σ H _ I hq) fun us s1 ⟨xs, H1, I1, r, z, q⟩ => ⟨by rw [← r.length]; exact z, ?_⟩)
  have hf : H1 s1.heap.objs.size = none := I1.hok.fresh (Nat.le_refl _)
  refine ⟨.ref s1.heap.objs.size, upd H1 s1.heap.objs.size (.tup xs), I1.laid (t' := s1.toks) (fun b u e => Heap.get?_push_of_some _ e) (Nat.le_refl _) ?_, rfl, q _ hf⟩
  exact ⟨z, us, r, ⟨_, Heap.get?_push_size _ rfl, rfl, _, rfl⟩⟩
theorem pe_lst (h : PA X es t) : PE X (.List es pos) (tLst t) := by
  intro pins s σ H Q I hq
  refine wpAny_List_spliced (thn (h pos pins s σ H _ I hq) fun us s1 ⟨xs, H1, I1, r, z, q⟩ => ⟨by rw [← r.length]; exact z, ?_⟩)
  have hf : H1 s1.heap.objs.size = none := I1.hok.fresh (Nat.le_refl _)
  refine ⟨.ref s1.heap.objs.size, upd H1 s1.heap.objs.size (.lst xs), I1.laid (t' := s1.toks) (fun b u e => Heap.get?_push_of_some _ e) (Nat.le_refl _) ?_, rfl, q _ hf⟩
  exact ⟨z, us, 0, r, Heap.get?_push_size _ rfl⟩
end
abbrev Sp := List V → Hp → VK → XK → Prop
abbrev CXT := List Env → Hp → Shared → XK → Value → Shared → Prop
structure Env0 (P : Program) (w : World) (K : PySem.W.Frag) (mg : Str → Option Value) (base : Heap) (A : Around) (outer : List Env) (s : Shared) (H : Hp) : Prop where
  frames : A.frames = some outer
  mod : Mod K mg base
  bs : ∀ b o, base.get? b = some o → s.heap.get? b = some o ∧ H b = none
  bsz : base.objs.size ≤ s.heap.objs.size
  funs : s.heap.FunFrames base outer
  frf : ∀ b ∈ frs outer, H b = none
  hok : HOk P w H s.heap
  bare : AllBare s.gens
def CE (outer : List Env) (P : Program) (w : World) (H : Hp) (s : Shared) (Q : VK) (u : Value) (s' : Shared) : Prop :=
  ∃ v H', s'.os = s.os ∧ AllBare s'.gens ∧ Un (frs outer) [] H H' s.heap s'.heap ∧ HOk P w H' s'.heap ∧ RelV v u ∧ Q v H'
def CR (CX : CXT) (outer : List Env) (P : Program) (w : World) (H : Hp) (s : Shared) (Q : VK) (E : XK) (r : Result) (s' : Shared) : Prop :=
  match r with
  | .ok (.ret u) => CE outer P w H s Q u s'
  | .ok _ => False
  | .error e => CX outer H s E e s'
structure FnOk (P : Program) (w : World) (K : PySem.W.Frag) (mg : Str → Option Value) (base : Heap) (CX : CXT) (k : Nat) (f : Addr) (fd : FuncData) (ps : List Str) (sp : Sp) : Prop where
  len : ∀ vs H Q E, sp vs H Q E → vs.length = ps.length
  run : ∀ (A : Around) (outer : List Env) (s : Shared) (H : Hp) (args : Args) (us : List Value) (vs : List V) (Q : VK) (E : XK), Room k A → Env0 P w K mg base A outer s H → BindsTo s fd args (ps.zip us) → Vals vs us → sp vs H Q E →
    codeAny (model P w) A (.call (.ref f) args) (CR CX outer P w H s Q E) s
theorem FnOk.mono {P : Program} {w : World} {K : PySem.W.Frag} {mg : Str → Option Value} {base : Heap} {CX : CXT} {j k : Nat} {f : Addr} {fd : FuncData} {ps : List Str} {sp : Sp} (F : FnOk P w K mg base CX j f fd ps sp) (h : j ≤ k) :
    FnOk P w K mg base CX k f fd ps sp := ⟨F.len, fun A outer s H args us vs Q E hr => F.run A outer s H args us vs Q E (hr.mono h)⟩
theorem FnOk.imp {P : Program} {w : World} {K : PySem.W.Frag} {mg : Str → Option Value} {base : Heap} {CX : CXT} {k : Nat} {f : Addr} {fd : FuncData} {ps : List Str} {sp sp' : Sp} (F : FnOk P w K mg base CX k f fd ps sp)
    (h : ∀ vs H Q E, sp' vs H Q E → sp vs H Q E) : FnOk P w K mg base CX k f fd ps sp' :=
  ⟨fun vs H Q E q => F.len vs H Q E (h _ _ _ _ q), fun A outer s H args us vs Q E hr he hb hv hs => F.run A outer s H args us vs Q E hr he hb hv (h _ _ _ _ hs)⟩
theorem Env0.in1 {P : Program} {w : World} {K : PySem.W.Frag} {mg : Str → Option Value} {base : Heap} {A : Around} {outer : List Env} {s : Shared} {H : Hp} (e : Env0 P w K mg base A outer s H) :
    Env0 P w K mg base A.in1 outer s H := ⟨e.frames, e.mod, e.bs, e.bsz, e.funs, e.frf, e.hok, e.bare⟩
section
variable {X : Cx} {pins : List (Addr × Obj)} {σ : St} {H : Hp} {s s' : Shared}
theorem Inv.env0 (I : Inv X pins σ H s) : Env0 X.prog X.w X.K X.mg X.base X.A X.stack s H :=
  ⟨I.ok.frames, I.ok.mod, I.bs, Nat.le_trans I.ok.bsz I.sz, I.stack, I.stkFree, I.hok, I.bare⟩
theorem Inv.after {Q : VK} {u : Value} (I : Inv X pins σ H s) (h : CE X.stack X.prog X.w H s Q u s') : EP X pins σ Q u s' := by
  obtain ⟨v, H', os, bare, un, hok, r, q⟩ := h
  obtain ⟨hh, g, d, t, os'⟩ := s'
  obtain rfl : os' = s.os := os
  exact ⟨v, H', I.call (h' := hh) (g' := g) (d' := d) (t' := t) (ch := []) un hok bare (fun b z => absurd z (by simp)), r, q⟩
end
def tCall (sp : Sp) (dvs : List V) (E : XK) (t : TA) : TE := fun σ H Q => t σ H fun vs H1 => sp (vs ++ dvs) H1 Q E
def Binds (K : PySem.W.Frag) (fd : FuncData) (ps : List Str) (ds : List Value) : Prop :=
  ∀ (s : Shared) (us : List Value), K.In s.heap → (us ++ ds).length = ps.length → BindsTo s fd ⟨us, []⟩ (ps.zip (us ++ ds))
theorem Binds.all {K : PySem.W.Frag} {fd : FuncData} {ps : List Str} (h : ∀ us : List Value, us.length = ps.length → bindArgs fd ⟨us, []⟩ = pure (ps.zip us)) : Binds K fd ps [] := fun s us _ hl => by
  rw [List.append_nil] at hl ⊢
  exact .of_eq (h us hl)
def Passes (CX : CXT) (X : Cx) (E : XK) : Prop := ∀ (pins : List (Addr × Obj)) (σ : St) (H : Hp) (s : Shared) (e : Value) (s' : Shared), Inv X pins σ H s → CX X.stack H s E e s' → X.xe e s'
section
variable {X : Cx} {CX : CXT} {k : Nat} {f C : Addr} {fd : FuncData} {ps : List Str} {sp : Sp} {dvs : List V} {ds : List Value} {E : XK} {x m : Str} {p pos apos : Pos} {e o : Expr} {es : List Expr} {ta : TE} {t : TA}
theorem run_fn {pins : List (Addr × Obj)} {σ : St} {H : Hp} {s : Shared} {Q : VK} {us : List Value} {vs : List V} (F : FnOk X.prog X.w X.K X.mg X.base CX k f fd ps sp) (hr : Room k X.A) (hb : Binds X.K fd ps ds) (hd : Vals dvs ds) (hx : Passes CX X E)
    (I : Inv X pins σ H s) (r : Vals vs us) (h : sp (vs ++ dvs) H Q E) : wpAny (model X.prog X.w) X.A (call (.ref f) us) (EP X pins σ Q) X.xe s := by
  have r2 : Vals (vs ++ dvs) (us ++ ds) := r.append hd
  have hl : (us ++ ds).length = ps.length := by rw [← r2.length]; exact F.len _ _ _ _ h
  refine wpAny_call (codeAny_mono (F.run X.A X.stack s H ⟨us, []⟩ (us ++ ds) (vs ++ dvs) Q E hr I.env0 (hb s us I.kIn hl) r2 h) fun r s' hq => ?_)
  cases r with
  | error e => exact hx pins σ H s e s' I hq
  | ok fl =>
    cases fl with
    | ret u => exact I.after hq
    | next => exact False.elim hq
    | brk => exact False.elim hq
    | cont => exact False.elim hq
theorem pe_call (F : FnOk X.prog X.w X.K X.mg X.base CX k f fd ps sp) (hr : Room k X.A) (hg : Gl X x) (hm : X.mg x = some (.ref f)) (hk : PySem.W.keepIn X.K (.ref f) = true) (hb : Binds X.K fd ps ds) (hd : Vals dvs ds) (hx : Passes CX X E)
    (ha : PA X (e :: es) t) (hdb : (x == ("__debug__" : Str)) = false := by decide) (he : starEach (e :: es) X.env = (false, eval e X.env) :: starEach es X.env := by rfl) (hpl : (backTo pos (starEach es X.env)).any (·.1) = false := by rfl) :
    PE X (.Call (.Name x p) (e :: es) [] pos) (tCall sp dvs E t) := by
  intro pins s σ H Q I h
  refine wpAny_Call_Name_kw (ld_glob I hg hm ?_ hdb)
  refine PySem.W.callWith_K (h₀ := X.base) I.ok.mod.kin hk (thn (ha pos pins s σ H _ I h) fun us s1 ⟨vs, H1, I1, r, q⟩ => ⟨I1.kIn, ?_⟩) he hpl
  exact run_fn F hr hb hd hx I1 r q
structure Mk (K : PySem.W.Frag) (C f : Addr) : Prop where
  makes : PySem.W.makesIn K C = true
  init : PySem.W.findIn K (.ref C) "__init__" = some (some (.ref f))
  fn : PySem.W.isFn K (.ref f) = true
  kp : PySem.W.keepIn K (.ref C) = true
end
section
variable {X : Cx} {CX : CXT} {k : Nat} {f C : Addr} {fd : FuncData} {ps ks : List Str} {sp : Sp} {E : XK} {x m : Str} {p pos apos kpos : Pos} {e o : Expr} {es : List Expr} {kws : List Keyword} {te ta : TE} {t tk : TA} {nm : Option Str}
structure KBinds (K : PySem.W.Frag) (fd : FuncData) (ps ks : List Str) (g : List Value → List Value → List Value) (gV : List V → List V → List V) : Prop where
  to : ∀ (s : Shared) (us ws : List Value), K.In s.heap → (g us ws).length = ps.length → BindsTo s fd ⟨us, ks.zip ws⟩ (ps.zip (g us ws))
  rel : ∀ {vs : List V} {us : List Value} {zs : List V} {ws : List Value}, Vals vs us → Vals zs ws → Vals (gV vs zs) (g us ws)
variable {g : List Value → List Value → List Value} {gV : List V → List V → List V}
end
structure FnScope (N P : List Str) (sc : Scope) : Prop where
  kind : sc.kind = .function
  co : sc.isCoroutine = false
  gen : sc.isGenerator = false
  nd : N.Nodup
  pre : N.take P.length = P
  par : ∀ x ∈ P, sc.names.lookup x = some .local ∨ sc.names.lookup x = some .cell
  nofree : ∀ y ∈ sc.names, y.2 ≠ .free
theorem bindL_out {kindOf : Str → Option NameKind} {x : Str} : ∀ {binds : List (Str × Value)} {m : Str → Option Value}, (∀ v, (x, v) ∉ binds) → bindL kindOf binds m x = m x
  | [], _, _ => rfl
  | (n, v) :: r, m, h => by
    unfold bindL
    rw [bindL_out fun w hw => h w (List.mem_cons_of_mem _ hw)]
    split
    · have : x ≠ n := by rintro rfl; exact h v List.mem_cons_self
      simp [this]
    · rfl
theorem bindC_out {kindOf : Str → Option NameKind} {x : Str} : ∀ {binds : List (Str × Value)} {m : Str → Option Value}, (∀ v, (x, v) ∉ binds) → bindC kindOf binds m x = m x
  | [], _, _ => rfl
  | (n, v) :: r, m, h => by
    unfold bindC
    rw [bindC_out fun w hw => h w (List.mem_cons_of_mem _ hw)]
    split
    · rfl
    · have : x ≠ n := by rintro rfl; exact h v List.mem_cons_self
      simp [this]
theorem bindL_get {kindOf : Str → Option NameKind} {x : Str} {v : Value} : ∀ {P : List Str} {vs : List Value} {i : Nat} {m : Str → Option Value}, P.Nodup → P[i]? = some x → vs[i]? = some v → kindOf x = some .local →
    bindL kindOf (P.zip vs) m x = some v
  | [], _, _, _, _, h, _, _ => by simp at h
  | _ :: _, [], _, _, _, _, h, _ => by simp at h
  | p :: P, w :: vs, 0, m, nd, h1, h2, hk => by
    simp at h1 h2; subst h1; subst h2
    show bindL kindOf ((p, w) :: P.zip vs) m p = _
    unfold bindL
    rw [bindL_out fun v hv => (List.nodup_cons.mp nd).1 (List.of_mem_zip hv).1, if_pos hk]
    simp
  | p :: P, w :: vs, i + 1, m, nd, h1, h2, hk => by
    show bindL kindOf ((p, w) :: P.zip vs) m x = _
    unfold bindL
    exact bindL_get (i := i) (List.nodup_cons.mp nd).2 (by simpa using h1) (by simpa using h2) hk
theorem bindC_get {kindOf : Str → Option NameKind} {x : Str} {v : Value} : ∀ {P : List Str} {vs : List Value} {i : Nat} {m : Str → Option Value}, P.Nodup → P[i]? = some x → vs[i]? = some v → kindOf x ≠ some .local →
    bindC kindOf (P.zip vs) m x = some v
  | [], _, _, _, _, h, _, _ => by simp at h
  | _ :: _, [], _, _, _, _, h, _ => by simp at h
  | p :: P, w :: vs, 0, m, nd, h1, h2, hk => by
    simp at h1 h2; subst h1; subst h2
    show bindC kindOf ((p, w) :: P.zip vs) m p = _
    unfold bindC
    rw [bindC_out fun v hv => (List.nodup_cons.mp nd).1 (List.of_mem_zip hv).1, if_neg hk]
    simp
  | p :: P, w :: vs, i + 1, m, nd, h1, h2, hk => by
    show bindC kindOf ((p, w) :: P.zip vs) m x = _
    unfold bindC
    exact bindC_get (i := i) (List.nodup_cons.mp nd).2 (by simpa using h1) (by simpa using h2) hk
def start (N : List Str) (vs : List V) : St := vs.map some ++ List.replicate (N.length - vs.length) none
def cxOf (CX : CXT) (P : Program) (w : World) (K : PySem.W.Frag) (mg : Str → Option Value) (base : Heap) (N : List Str) (qual : Str) (scope : Scope) (f : Addr) (cd : Value) (A : Around) (outer : List Env) (s : Shared) (H : Hp) (E : XK) : Cx where
  prog := P
  w := w
  K := K
  mg := mg
  base := base
  A := A.deeper (envOfC qual scope s.heap.objs.size f cd)
  N := N
  s₀ := s
  H₀ := H
  env := envOfC qual scope s.heap.objs.size f cd
  outer := outer
  stack := envOfC qual scope s.heap.objs.size f cd :: outer
  ex := []
  calm := true
  fn := fun _ => true
  pn := []
  xe := fun e s' => wpAny (model P w) (A.deeper (envOfC qual scope s.heap.objs.size f cd)) (leaving (envOfC qual scope s.heap.objs.size f cd) e) (fun _ s'' => CX outer H s E e s'') (fun e' s'' => CX outer H s E e' s'') s'
theorem cell_has {sc : Scope} {n : Nat} {x : Str} (h : sc.names.lookup x = some .cell) : ∃ c, (cellsFrom n sc.names []).lookup x = some c := by
  have q := PySem.W.cellsFrom_some sc.names n [] (.inl h)
  exact Option.isSome_iff_exists.mp q
theorem inv_start {CX : CXT} {P : Program} {w : World} {K : PySem.W.Frag} {mg : Str → Option Value} {base : Heap} {N ps : List Str} {qual : Str} {scope : Scope} {f : Addr} {cd : Value} {A : Around} {outer : List Env} {s s1 : Shared} {H : Hp} {E : XK} {us : List Value} {vs : List V}
    (S : FnScope N ps scope) (hd : A.handled = none) (e0 : Env0 P w K mg base A outer s H) (hl : vs.length = ps.length) (r : Vals vs us)
    (x : InCallC s s.heap.objs.size (bindL (envOfC qual scope s.heap.objs.size f cd).kindOf (ps.zip us) fun _ => none) (cellsFrom (s.heap.objs.size + 1) scope.names []) (bindC (envOfC qual scope s.heap.objs.size f cd).kindOf (ps.zip us) fun _ => none) s1) :
    Inv (cxOf CX P w K mg base N qual scope f cd A outer s H E) [] (start N vs) H s1 := by
  have hpl : ps.length ≤ N.length := by have := congrArg List.length S.pre; rw [List.length_take] at this; omega
  obtain ⟨h1, tk, rfl, hk⟩ := x.done
  have noA : ∀ b : Addr, b ∉ (cxOf CX P w K mg base N qual scope f cd A outer s H E).ex := fun b z => absurd (show b ∈ ([] : List Addr) from z) (by simp)
  refine ⟨⟨e0.mod, S.kind, rfl, rfl, Nat.le_refl _, fun y z c h1 h2 => ?_, fun y hy => ?_, fun y c _ h => ?_, fun _ => hd, Around.frames_deeper e0.frames, .inr ⟨rfl, rfl⟩, fun b z => absurd z (noA b), e0.bs, e0.bsz, fun b _ _ => noA b, fun b z => absurd z (noA b), e0.funs, e0.frf⟩,
    rfl, e0.bare, Un.kept hk, ⟨_, x.toInCall.ns, fun i y v h1 h2 h3 => ?_⟩, fun y c h => ⟨_, x.cell y c h⟩, e0.hok.fresh (Nat.le_refl _), fun y c h => ?_, fun p hp => absurd (show p ∈ ([] : List (Addr × Obj)) from hp) (by simp), e0.hok.kept hk, ?_⟩
  · exact name_of_addr x.apart (PySem.mem_of_lookup h1) (PySem.mem_of_lookup h2)
  · have hy : scope.names.lookup y = some .cell ∨ scope.names.lookup y = some .free := hy
    rcases hy with hy | hy
    · exact cell_has hy
    · exact absurd rfl (S.nofree _ (PySem.mem_of_lookup hy))
  · exact Nat.le_of_lt (x.above y c (PySem.mem_of_lookup h))
  · have hi : i < vs.length := by
      unfold start at h2
      by_cases hi : i < vs.length
      · exact hi
      · rw [List.getElem?_append_right (by simpa using hi)] at h2
        rw [List.getElem?_replicate] at h2
        split at h2 <;> cases h2
    have ha : vs[i]? = some v := by
      unfold start at h2
      rw [List.getElem?_append_left (by simpa using hi), List.getElem?_map] at h2
      cases e : vs[i]? with
      | none => rw [e] at h2; cases h2
      | some a => rw [e] at h2; cases h2; rfl
    obtain ⟨u, hu, rv⟩ := r.get ha
    have hp : ps[i]? = some y := by
      rw [← S.pre, List.getElem?_take_of_lt (by omega)]; exact h1
    have ndP : ps.Nodup := by rw [← S.pre]; exact S.nd.sublist (List.take_sublist _ _)
    refine ⟨u, rv, ?_⟩
    rcases S.par y (List.mem_of_getElem? hp) with k | k
    · exact .inl ⟨k, bindL_get ndP hp hu k⟩
    · obtain ⟨c, e⟩ := cell_has (n := s.heap.objs.size + 1) k
      refine .inr ⟨.inl k, c, e, ?_⟩
      have q := x.cell y c e
      rw [bindC_get ndP hp hu (by show scope.names.lookup y ≠ _; rw [k]; decide)] at q
      exact q
  · exact e0.hok.fresh (Nat.le_of_lt (x.above y c (PySem.mem_of_lookup h)))
  · unfold start
    show _ = N.length
    rw [List.length_append, List.length_map, List.length_replicate]
    omega
theorem fn_of {CX : CXT} {P : Program} {w : World} {K : PySem.W.Frag} {mg : Str → Option Value} {base : Heap} {k : Nat} {f : Addr} {name qual : Str} {params : Arguments} {body : List Stmt} {scope : Scope} {dV kV doc pm cdv ct oc : Value} {an od : Option Addr}
    {osl : Array (Option Value)} {N ps : List Str} {sp : Sp} (lk : K.lookup f = some ⟨oc, od, .func (PySem.W.fnOf name qual params body scope dV kV doc pm an cdv ct), osl⟩) (hcd : PySem.W.codeIn K cdv qual = true) (S : FnScope N ps scope)
    (len : ∀ vs H Q E, sp vs H Q E → vs.length = ps.length)
    (hbody : ∀ (A : Around) (outer : List Env) (s : Shared) (H : Hp) (vs : List V) (Q : VK) (E : XK), Room k (A.deeper (envOfC qual scope s.heap.objs.size f cdv)) → sp vs H Q E →
      ∃ t, PSs (cxOf CX P w K mg base N qual scope f cdv A outer s H E) body t ∧ t { nx := fun _ H' => Q .non H', rt := Q } (start N vs) H) :
    FnOk P w K mg base CX (k + 1) f (PySem.W.fnOf name qual params body scope dV kV doc pm an cdv ct) ps sp := by
  refine ⟨len, fun A outer s H args us vs Q E hr e0 hb r hsp => ?_⟩
  have hl := len _ _ _ _ hsp
  have KX : K.In s.heap := e0.mod.kin.keeps fun b o e => (e0.bs b o e).1
  have lim : s.heap.NoLimit := e0.mod.nolimit.keeps fun b o e => (e0.bs b o e).1
  have hkind : ∀ y ∈ ps.zip us, scope.names.lookup y.1 = some .local ∨ (scope.names.lookup y.1 = some .cell ∧ ((cellsFrom (s.heap.objs.size + 1) scope.names []).lookup y.1).isSome = true) := fun ⟨n, v⟩ hy => by
    rcases S.par n (List.of_mem_zip hy).1 with q | q
    · exact .inl q
    · exact .inr ⟨q, PySem.W.cellsFrom_some _ _ _ (.inl q)⟩
  refine codeAny_call_function hr.depth (KX _ _ lk) rfl S.co S.gen rfl (PySem.W.codeRec_of KX hcd) (hb _ _ _ _ ?_)
  refine wpAny_newFunctionEnv_cells S.kind hkind fun env he s1 x => ?_
  subst he
  refine ⟨lim.keeps x.toInCall.keep, codeAny_func ?_⟩
  obtain ⟨t, ht, hq⟩ := hbody A outer s H vs Q E (hr.deeper _) hsp
  have I : Inv (cxOf CX P w K mg base N qual scope f cdv A outer s H E) [] (start N vs) H s1 := inv_start S hr.hd e0 hl r x
  refine wpAny_mono (ht [] s1 (start N vs) H _ I hq) (fun fl s' hs => ?_) fun e s' hs => hs
  have fin : ∀ {σ' : St} {H' : Hp} {v : V} {u : Value}, Inv (cxOf CX P w K mg base N qual scope f cdv A outer s H E) [] σ' H' s' → RelV v u → Q v H' → CE outer P w H s Q u s' :=
    fun {σ' H' v u} J rv q => ⟨v, H', J.os, J.bare, J.base, J.hok, rv, q⟩
  cases fl with
  | ret u =>
    obtain ⟨v, σ', H', J, rv, q⟩ := hs
    exact fin J rv q
  | next =>
    obtain ⟨σ', H', J, q⟩ := hs
    exact fin (v := V.non) (u := Value.none) J rfl q
  | brk =>
    obtain ⟨_, _, _, q⟩ := hs
    exact False.elim q
  | cont =>
    obtain ⟨_, _, _, q⟩ := hs
    exact False.elim q
end L2
namespace L2
open PySem PySem.Spec PyProof.Rows
section
variable {X : Cx} {x : Str} {p pos : Pos} {e : Expr} {es : List Expr} {t : TA} {id T : String} {r : List V → Hp → VK → Prop}
def tCB (r : List V → Hp → VK → Prop) (t : TA) : TE := fun σ H Q => t σ H fun vs H1 => r vs H1 Q
theorem pe_callB (hc : CallR X (.builtin id) r) (hg : Gl X x) (hm : X.mg x = none) (hv : bootBuiltins x = some (.builtin id)) (ha : PA X (e :: es) t) (hn : x ≠ "__name__" := by decide) (hdb : (x == ("__debug__" : Str)) = false := by decide)
    (he : starEach (e :: es) X.env = (false, eval e X.env) :: starEach es X.env := by rfl) (hpl : (backTo pos (starEach es X.env)).any (·.1) = false := by rfl) : PE X (.Call (.Name x p) (e :: es) [] pos) (tCB r t) := by
  intro pins s σ H Q I h
  refine wpAny_Call_Name_kw (ld_blt I hg hm hv ?_ hn hdb)
  exact PyProof.Rows.callWith_builtin1 (thn (ha pos pins s σ H _ I h) fun us s1 ⟨vs, H1, I1, r1, q1⟩ => hc pins s1 σ H1 vs us Q I1 r1 q1) he hpl
theorem pe_callTy (hc : CallR X (.type T) r) (hg : Gl X x) (hm : X.mg x = none) (hv : bootBuiltins x = some (.type T)) (ha : PA X (e :: es) t) (hn : x ≠ "__name__" := by decide) (hdb : (x == ("__debug__" : Str)) = false := by decide)
    (he : starEach (e :: es) X.env = (false, eval e X.env) :: starEach es X.env := by rfl) (hpl : (backTo pos (starEach es X.env)).any (·.1) = false := by rfl) : PE X (.Call (.Name x p) (e :: es) [] pos) (tCB r t) := by
  intro pins s σ H Q I h
  refine wpAny_Call_Name_kw (ld_blt I hg hm hv ?_ hn hdb)
  exact PyProof.Rows.callWith_type1 (thn (ha pos pins s σ H _ I h) fun us s1 ⟨vs, H1, I1, r1, q1⟩ => hc pins s1 σ H1 vs us Q I1 r1 q1) he hpl
end
end L2
namespace HT
open PySem PyProof.Rows
theorem eqAt_int (A : Around) (s : Shared) (a : Int) (t : Tok) (c : Int) (u : Tok) : ∃ e, SeqAt.EqAt A s (.int a t) (.int c u) e ∧ (e = true ↔ a = c) :=
  ⟨(a == c), SeqAt.EqAt.int_int a t c u, by simp⟩
section
open PySem.SeqAt
open PySem.AutoSeq1 (wpAny_loadPart')
open PySem.MeetsSeq PySem.MeetsSeq2 PySem.MeetsSeq3
end
section
variable {prog : Program} {w : World} {A : Around} {E : Value → Shared → Prop} {s : Shared}
def sIx (n d : Nat) : Option Int → Nat
  | none => d
  | some v => if v < 0 then (v + (n : Int)).toNat else min v.toNat n
theorem sIx_none (n d : Nat) : sIx n d none = d := rfl
theorem sIx_nat (n d k : Nat) : sIx n d (some (k : Int)) = min k n := by
  show (if (k : Int) < 0 then ((k : Int) + (n : Int)).toNat else min (k : Int).toNat n) = min k n
  rw [if_neg (by omega), Int.toNat_natCast]
theorem sIx_le (n d : Nat) (hd : d ≤ n) (o : Option Int) : sIx n d o ≤ n := by
  cases o with
  | none => exact hd
  | some v =>
    show (if v < 0 then (v + (n : Int)).toNat else min v.toNat n) ≤ n
    by_cases hv : v < 0
    · rw [if_pos hv]; omega
    · rw [if_neg hv]; exact Nat.min_le_right _ _
theorem clip_eq (v : Int) (n d : Nat) : (if v < 0 then max (v + (n : Int)) 0 else min v (n : Int)) = ((sIx n d (some v) : Nat) : Int) := by
  show (if v < 0 then max (v + (n : Int)) 0 else min v (n : Int)) = (((if v < 0 then (v + (n : Int)).toNat else min v.toNat n) : Nat) : Int)
  by_cases hv : v < 0
  · simp only [if_pos hv]; omega
  · simp only [if_neg hv]; omega
theorem adjust_gen (lo hi : Option Int) (n : Nat) : Builtin.Slice.sliceAdjust lo hi 1 (n : Int) = (((sIx n 0 lo : Nat) : Int), ((sIx n n hi : Nat) : Int)) := by
  have h1 : ¬ ((1 : Int) < 0) := by omega
  unfold Builtin.Slice.sliceAdjust
  simp only [h1, if_false]
  refine Prod.ext ?_ ?_
  · cases lo with
    | none => rfl
    | some v => exact clip_eq v n 0
  · cases hi with
    | none => rfl
    | some v => exact clip_eq v n n
theorem places_gen (i j : Nat) : Builtin.Slice.slicePlaces (i : Int) (j : Int) 1 = j - i := by
  unfold Builtin.Slice.slicePlaces
  have h1 : (1 : Int) > 0 := by omega
  simp only [h1, if_true, Int.ediv_one]
  split <;> omega
theorem slicePart_ {v : Value} {o : Option Int} {Q : Option Int → Shared → Prop} (p : IsPart v o) (h : Q o s) : wpAny (model prog w) A (Builtin.Slice.slicePartIndex v) Q E s := by
  cases p with
  | none => exact slicePart_none h
  | int i t => exact slicePart_int h
theorem sliceApplied_gen {sl : Addr} {vl vu : Value} {lo hi : Option Int} {n : Nat} {Q : Int × Int × Nat → Shared → Prop} (hs : s.heap.IsSliceOf sl vl vu .none) (pl : IsPart vl lo) (pu : IsPart vu hi)
    (h : Q (((sIx n 0 lo : Nat) : Int), 1, sIx n n hi - sIx n 0 lo) s) : wpAny (model prog w) A (Builtin.Slice.sliceApplied (.ref sl) (pure (n : Int))) Q E s := by
  obtain ⟨os, hos, hcs, hds⟩ := id hs
  unfold Builtin.Slice.sliceApplied Builtin.Slice.sliceFields
  refine wpAny_bind (wpAny_bind (wpAny_field hos hds (x := vl) rfl (wpAny_bind (wpAny_field hos hds (x := vu) rfl (wpAny_bind (wpAny_field hos hds (x := .none) rfl (wpAny_pure ?_)))))))
  refine wpAny_bind (slicePart_none ?_)
  show wpAny _ _ (if ((1 : Int) == 0) = true then _ else _) _ _ s
  rw [if_neg (by decide)]
  refine wpAny_bind (slicePart_ pl (wpAny_bind (slicePart_ pu (wpAny_bind (wpAny_pure ?_)))))
  show wpAny _ _ (match Builtin.Slice.sliceAdjust lo hi 1 (n : Int) with | (lo, hi) => pure (lo, (1 : Int), Builtin.Slice.slicePlaces lo hi 1)) _ _ s
  rw [adjust_gen lo hi n]
  show wpAny _ _ (pure (((sIx n 0 lo : Nat) : Int), (1 : Int), Builtin.Slice.slicePlaces ((sIx n 0 lo : Nat) : Int) ((sIx n n hi : Nat) : Int) 1)) _ _ s
  rw [places_gen]
  exact wpAny_pure h
theorem pick_gen (xs : Array Value) (i k : Nat) : ((List.range k).filterMap fun (m : Nat) => xs[((i : Int) + (m : Int) * 1).toNat]?).toArray = ((xs.toList.drop i).take k).toArray := by
  have e : (fun (m : Nat) => xs[((i : Int) + (m : Int) * 1).toNat]?) = fun m => xs[i + m]? := by
    funext m
    have : ((i : Int) + (m : Int) * 1).toNat = i + m := by omega
    rw [this]
  rw [e]
  have := pick_run xs i k
  rw [List.filterMap_map] at this
  have e2 : ((fun x => xs[x]?) ∘ fun x => i + x) = fun m => xs[i + m]? := rfl
  rw [e2] at this
  rw [this]
theorem getItem_tuple_cut {t sl : Addr} {items : Array Value} {vl vu : Value} {lo hi : Option Int} {Q : Value → Shared → Prop} (ht : IsTup s.heap t items) (hs : s.heap.IsSliceOf sl vl vu .none) (pl : IsPart vl lo) (pu : IsPart vu hi)
    (hw : ¬ (sIx items.size 0 lo = 0 ∧ sIx items.size items.size hi = items.size))
    (h : Q (.ref s.heap.objs.size) { s with heap := s.heap.push { cls := .type "tuple", data := .seq ((items.toList.drop (sIx items.size 0 lo)).take (sIx items.size items.size hi - sIx items.size 0 lo)).toArray } })
    (hsz : items.size ≤ sizeLine) : wpAny (model prog w) A (getItem (.ref t) (.ref sl)) Q E s := by
  have htake : sizeOk (.seq ((items.toList.drop (sIx items.size 0 lo)).take (sIx items.size items.size hi - sIx items.size 0 lo)).toArray) := by
    show ((items.toList.drop (sIx items.size 0 lo)).take (sIx items.size items.size hi - sIx items.size 0 lo)).toArray.size ≤ sizeLine
    rw [List.size_toArray, List.length_take, List.length_drop, Array.length_toList]
    omega
  have hj : sIx items.size items.size hi ≤ items.size := sIx_le _ _ (Nat.le_refl _) hi
  obtain ⟨os, hos, hcs, hds⟩ := id hs
  have hTs : s.TypeIs (.ref sl) "slice" := ⟨os, hos, hcs⟩
  unfold getItem
  try with_reducible refine wpAny_holding ?_
  first | refine wpAny_bind (wpAny_pure ?_) | skip
  refine wpAny_bind (wpAny_sequenceKey ht.typeIs (by decide) ?_)
  refine wpAny_bind (wpAny_callSpecial?_slot (name := Str.ofString "__getitem__") ht.typeIs PyProof.Rows.slot_tuple_getitem
    (wpAny_call_entry PyProof.Rows.slot_tuple_getitem ht.typeIs entry_tuple_getitem ?_ (args_tuple_getitem _ _)))
  show wpAny _ _ (Builtin.Tuple.tupleItemsOf (.ref t) >>= _) _ _ s
  refine wpAny_bind (tupleItemsOf_ ht ?_)
  refine wpAny_bind (wpAny_typeOf hTs ?_)
  rw [if_pos (by decide)]
  refine wpAny_bind (sliceApplied_gen hs pl pu ?_)
  have hno : ¬ ((((sIx items.size 0 lo : Nat) : Int) == 0 && (1 : Int) == 1 && (sIx items.size items.size hi - sIx items.size 0 lo) == items.size) = true) := by
    intro q
    rw [Bool.and_eq_true, Bool.and_eq_true] at q
    have q1 : ((sIx items.size 0 lo : Nat) : Int) = 0 := eq_of_beq q.1.1
    have q2 : sIx items.size items.size hi - sIx items.size 0 lo = items.size := eq_of_beq q.2
    exact hw ⟨by omega, by omega⟩
  show wpAny _ _ (if (((sIx items.size 0 lo : Nat) : Int) == 0 && (1 : Int) == 1 && (sIx items.size items.size hi - sIx items.size 0 lo) == items.size) = true then _ else _) _ _ s
  rw [if_neg hno, pick_gen]
  first
    | exact wpAny_bind (m := Builtin.Tuple.tupleExact _) (wpAny_newObj_type (wpAny_pure ⟨_, rfl, wpAny_pure h⟩) htake)
    | exact wpAny_bind (m := Builtin.Tuple.tupleExact _) (wpAny_newObj_type (wpAny_bind (wpAny_pure (wpAny_pure ⟨_, rfl, wpAny_pure h⟩))) htake)
    | exact wpAny_bind (wpAny_bind (m := Builtin.Tuple.tupleExact _) (wpAny_newObj_type (wpAny_pure (wpAny_pure ⟨_, rfl, wpAny_pure h⟩)) htake))
    | exact wpAny_bind (wpAny_bind (m := Builtin.Tuple.tupleExact _) (wpAny_newObj_type (wpAny_pure ⟨_, rfl, wpAny_pure h⟩) htake))
end
end HT
namespace L2
open PySem PySem.Spec PyProof.Rows
abbrev TO := St → Hp → (Option Int → Hp → Prop) → Prop
def PO (X : Cx) (e : Option Expr) (t : TO) : Prop :=
  ∀ (pins : List (Addr × Obj)) (s : Shared) (σ : St) (H : Hp) (Q : Option Int → Hp → Prop), Inv X pins σ H s → t σ H Q →
    wpAny (model X.prog X.w) X.A (evalPart e X.env) (fun u s' => ∃ o H', Inv X pins σ H' s' ∧ IsPart u o ∧ Q o H') X.xe s
def tNoPart : TO := fun _ H Q => Q none H
def tPart (t : TE) : TO := fun σ H Q => t σ H fun x H1 => ∃ i, x = .int i ∧ Q (some i) H1
theorem intsAre_of {ns : List Int} : ∀ {us : List Value}, Vals (ns.map V.int) us → IntsAre us ns := by
  induction ns with
  | nil => intro us r; rw [List.map_nil] at r; cases r; exact .nil
  | cons n ns ih =>
    intro us r
    rw [List.map_cons] at r
    cases r with
    | cons r1 r2 =>
      obtain ⟨t, e⟩ := r1
      subst e
      exact .cons n t (ih r2)
section
variable {X : Cx} {e : Expr} {te : TE} {lo hi : Option Expr} {tl th : TO} {pos p2 : Pos}
theorem po_none : PO X none tNoPart := by
  intro pins s σ H Q I h
  rw [evalPart_none]
  exact wpAny_pure ⟨none, H, I, .none, h⟩
theorem po_some (h : PE X e te) : PO X (some e) (tPart te) := by
  intro pins s σ H Q I hw
  rw [evalPart_some]
  refine thn (h pins s σ H _ I hw) fun u s1 ⟨x, H1, I1, r1, q1⟩ => ?_
  obtain ⟨i, rfl, q⟩ := q1
  obtain ⟨t, rfl⟩ := r1
  exact ⟨some i, H1, I1, .int i t, q⟩
def SlR (X : Cx) (r : V → Option Int → Option Int → Hp → VK → Prop) : Prop :=
  ∀ (pins : List (Addr × Obj)) (s : Shared) (σ : St) (H : Hp) (x : V) (v vl vu : Value) (lo hi : Option Int) (sl : Addr) (Q : VK), Inv X pins σ H s → RelV x v → s.heap.IsSliceOf sl vl vu .none → IsPart vl lo → IsPart vu hi → r x lo hi H Q →
    ∃ T id, typeLookup (.type T) "__getitem__" = pure (some (.builtin id)) ∧ s.TypeIs v T ∧ wpAny (model X.prog X.w) X.A (getItem v (.ref sl)) (EP X pins σ Q) X.xe s
def tSl (r : V → Option Int → Option Int → Hp → VK → Prop) (te : TE) (tl th : TO) : TE := fun σ H Q => te σ H fun x H1 => tl σ H1 fun l H2 => th σ H2 fun u H3 => r x l u H3 Q
theorem pe_slice {r : V → Option Int → Option Int → Hp → VK → Prop} (hr : SlR X r) (he : PE X e te) (hl : PO X lo tl) (hu : PO X hi th) : PE X (.Subscript e (.Slice lo hi none p2) pos) (tSl r te tl th) := by
  intro pins s σ H Q I h
  refine Subscript_ (thn (he pins s σ H _ I h) fun v s1 ⟨x, H1, I1, r1, q1⟩ => ?_)
  refine wpAny_Slice (thn (hl pins s1 σ H1 _ I1 q1) fun vl s2 ⟨l, H2, I2, pl, q2⟩ => thn (hu pins s2 σ H2 _ I2 q2) fun vu s3 ⟨u, H3, I3, pu, q3⟩ => ?_)
  rw [evalPart_none]
  refine wpAny_pure ?_
  have I4 : Inv X pins σ H3 { s3 with heap := s3.heap.push { cls := .type "slice", data := .fields #[vl, vu, .none] } } := I3.kept (t' := s3.toks) fun b ob q => Heap.get?_push_of_some _ q
  obtain ⟨T, id, hT, ht, hg⟩ := hr pins { s3 with heap := s3.heap.push { cls := .type "slice", data := .fields #[vl, vu, .none] } } σ H3 x v vl vu l u s3.heap.objs.size Q I4 r1 (Heap.IsSliceOf.new ..) pl pu q3
  show wpAny (model X.prog X.w) X.A (subscriptTail e (.Slice lo hi none p2) v (.ref s3.heap.objs.size)) (EP X pins σ Q) X.xe { s3 with heap := s3.heap.push { cls := .type "slice", data := .fields #[vl, vu, .none] } }
  exact tail_any (ops := [.ref s3.heap.objs.size, v]) ht hT hg (by with_unfolding_all rfl)
def cutV (xs : List V) (lo hi : Option Int) : List V := (xs.drop (HT.sIx xs.length 0 lo)).take (HT.sIx xs.length xs.length hi - HT.sIx xs.length 0 lo)
theorem cutV_length (xs : List V) (lo hi : Option Int) : (cutV xs lo hi).length ≤ xs.length := by
  unfold cutV
  rw [List.length_take, List.length_drop]
  omega
def rSlT (K : PySem.W.Frag) : V → Option Int → Option Int → Hp → VK → Prop := fun x lo hi H Q => ∃ a xs, x = .ref a ∧ SqT K H a xs ∧
  ¬ (HT.sIx xs.length 0 lo = 0 ∧ HT.sIx xs.length xs.length hi = xs.length) ∧ ∀ p, H p = none → Q (.ref p) (upd H p (.tup (cutV xs lo hi)))
theorem sl_tup : SlR X (rSlT X.K) := by
  intro pins s σ H x v vl vu lo hi sl Q I rx hs pl pu h
  obtain ⟨a, xs, rfl, hx, hw, q⟩ := h
  cases rx
  obtain ⟨its, r, ht, hz⟩ := I.tuple hx
  have hlen : its.toArray.size = xs.length := by rw [List.size_toArray]; exact r.length.symm
  refine ⟨"tuple", _, PyProof.Rows.slot_tuple_getitem.lookup, ht.typeIs, ?_⟩
  refine HT.getItem_tuple_cut ht hs pl pu (by rw [hlen]; exact hw) ?_ (by rw [hlen]; exact hz)
  rw [hlen]
  refine ⟨.ref s.heap.objs.size, _, I.laid (t' := s.toks) (o := .tup (cutV xs lo hi)) (fun b ob q => Heap.get?_push_of_some _ q) (Nat.le_refl _) ?_, rfl, q _ (I.hok.fresh (Nat.le_refl _))⟩
  exact ⟨Nat.le_trans (cutV_length xs lo hi) hz, _, (r.drop (HT.sIx xs.length 0 lo)).take (HT.sIx xs.length xs.length hi - HT.sIx xs.length 0 lo), IsTup.new _ _⟩
end
end L2
namespace L2
open PySem PySem.Spec PyProof.Rows
def ixN (n : Nat) (i : Int) : Option Nat := if 0 ≤ i then (if i < n then some i.toNat else none) else if -(n : Int) ≤ i then some (i + n).toNat else none
def atI {α : Type} (xs : List α) (i : Int) : Option α := (ixN xs.length i).bind fun j => xs[j]?
theorem ixN_seq {n : Nat} {i : Int} {j : Nat} (h : ixN n i = some j) : seqIndex? i n = some j ∧ j < n ∧ -(n : Int) ≤ i ∧ i < n := by
  unfold ixN at h
  by_cases h0 : 0 ≤ i
  · rw [if_pos h0] at h
    by_cases h1 : i < n
    · rw [if_pos h1] at h
      have e : i.toNat = j := Option.some.inj h
      exact ⟨by rw [seqIndex_of h0 h1, e], by omega, by omega, h1⟩
    · rw [if_neg h1] at h; cases h
  · rw [if_neg h0] at h
    by_cases h1 : -(n : Int) ≤ i
    · rw [if_pos h1] at h
      have e : (i + n).toNat = j := Option.some.inj h
      exact ⟨by rw [seqIndex_neg (by omega) h1, e], by omega, h1, by omega⟩
    · rw [if_neg h1] at h; cases h
theorem atI_get {α : Type} {xs : List α} {i : Int} {v : α} (h : atI xs i = some v) : ∃ j, seqIndex? i xs.length = some j ∧ xs[j]? = some v ∧ j < xs.length ∧ -(xs.length : Int) ≤ i ∧ i < xs.length := by
  unfold atI at h
  cases e : ixN xs.length i with
  | none => rw [e] at h; cases h
  | some j =>
    rw [e] at h
    obtain ⟨h1, h2, h3, h4⟩ := ixN_seq e
    exact ⟨j, h1, h, h2, h3, h4⟩
theorem atI_nat {α : Type} {xs : List α} {j : Nat} {v : α} (h : xs[j]? = some v) : atI xs (j : Int) = some v := by
  have hj : j < xs.length := (List.getElem?_eq_some_iff.mp h).1
  have e : ixN xs.length (j : Int) = some j := by
    unfold ixN
    rw [if_pos (by omega), if_pos (by omega)]; simp
  unfold atI; rw [e]; exact h
theorem atI_last {α : Type} (xs : List α) (v : α) : atI (xs ++ [v]) (-1) = some v := by
  have hl : (xs ++ [v]).length = xs.length + 1 := by simp
  have e : ixN (xs ++ [v]).length (-1) = some xs.length := by
    unfold ixN
    rw [hl, if_neg (by decide), if_pos (by omega)]
    congr 1
    omega
  unfold atI
  rw [e]
  show (xs ++ [v])[xs.length]? = some v
  simp
def PlainIx (b : Expr) : Prop := ∀ o i, subscripted b false o i = operate [o, i] (getItem o i)
def IxR (X : Cx) (r : R2) : Prop :=
  ∀ (value slice : Expr) (pins : List (Addr × Obj)) (s : Shared) (σ : St) (H : Hp) (x y : V) (v u : Value) (Q : VK), Inv X pins σ H s → RelV x v → RelV y u → r x y H Q →
    subscripted slice false v u = operate [v, u] (getItem v u) → wpAny (model X.prog X.w) X.A (subscriptTail value slice v u) (EP X pins σ Q) X.xe s
def MtR (X : Cx) (id : String) (r : V → List V → Hp → VK → Prop) : Prop :=
  ∀ (pins : List (Addr × Obj)) (s : Shared) (σ : St) (H : Hp) (x : V) (xs : List V) (v : Value) (us : List Value) (Q : VK), Inv X pins σ H s → RelV x v → Vals xs us → r x xs H Q →
    wpAny (model X.prog X.w) X.A (call (.builtin id) (v :: us)) (EP X pins σ Q) X.xe s
section
variable {X : Cx} {a b : Expr} {ta tb : TE} {pos : Pos}
theorem pe_ix {r : R2} (hr : IxR X r) (ha : PE X a ta) (hb : PE X b tb) (hs : PlainIx b) : PE X (.Subscript a b pos) (tOp r ta tb) := by
  intro pins s σ H Q I h
  exact Subscript_ (binT ha hb I h fun v u s2 x y H2 I2 rx ry q => hr a b pins s2 σ H2 x y v u Q I2 rx ry q (hs _ _))
def rIxL (K : PySem.W.Frag) : R2 := fun x y H Q => ∃ p xs i v, x = .ref p ∧ y = .int i ∧ SqL K H p xs ∧ atI xs i = some v ∧ Q v H
def rIxT (K : PySem.W.Frag) : R2 := fun x y H Q => ∃ p xs i v, x = .ref p ∧ y = .int i ∧ SqT K H p xs ∧ atI xs i = some v ∧ Q v H
theorem ix_list : IxR X (rIxL X.K) := by
  intro value slice pins s σ H x y v u Q I rx ry h hs
  obtain ⟨p, xs, i, z, rfl, rfl, hq, he, q⟩ := h
  cases rx
  obtain ⟨t, rfl⟩ := ry
  obtain ⟨its, r, pl, hz⟩ := I.list hq
  obtain ⟨j, h1, h2, h3, h4, h5⟩ := atI_get he
  obtain ⟨w, ew, rw'⟩ := r.get h2
  have hl := r.length
  have hn := line63
  have fin : EP X pins σ Q w s := ⟨z, H, I, rw', q⟩
  by_cases h0 : 0 ≤ i
  · have hj : i.toNat = j := by
      rw [seqIndex_of h0 h5] at h1
      exact Option.some.inj h1
    exact item_listR pl.isList h0 (by omega) (by rw [hj]; simpa using ew) fin hs
  · have hj : (i + (its.toArray.size : Int)).toNat = j := by
      rw [seqIndex_neg (by omega) h4] at h1
      rw [List.size_toArray, ← hl]
      exact Option.some.inj h1
    exact subscriptTail_builtinR (x := w) pl.isList.typeIs slot_list_getitem.lookup
      (wpAny_getItem_list_neg (Q := fun r s' => r = w ∧ EP X pins σ Q r s') pl.isList (by omega) (by rw [List.size_toArray] <;> omega) (by omega) (by rw [hj]; simpa using ew) ⟨rfl, fin⟩) hs
theorem ix_tup : IxR X (rIxT X.K) := by
  intro value slice pins s σ H x y v u Q I rx ry h hs
  obtain ⟨p, xs, i, z, rfl, rfl, hq, he, q⟩ := h
  cases rx
  obtain ⟨t, rfl⟩ := ry
  obtain ⟨its, r, pl, hz⟩ := I.tuple hq
  obtain ⟨j, h1, h2, h3, h4, h5⟩ := atI_get he
  obtain ⟨w, ew, rw'⟩ := r.get h2
  have hl := r.length
  have hn := line63
  have fin : EP X pins σ Q w s := ⟨z, H, I, rw', q⟩
  exact subscriptTail_builtinR (x := w) pl.typeIs slot_tuple_getitem.lookup
    (getItem_tuple (j := j) (Q := fun r s' => r = w ∧ EP X pins σ Q r s') pl (by omega) (by omega) (by rw [List.size_toArray, ← hl]; exact h1) (by simpa using ew) ⟨rfl, fin⟩) hs
theorem mapSeq_set (its : List Value) (n j : Nat) (u : Value) : Obj.mapSeq (·.setIfInBounds j u) { cls := .type "list", data := .seq its.toArray n } = { cls := .type "list", data := .seq (its.set j u).toArray n } := by
  simp [Obj.mapSeq]
theorem Inv.lst {pins : List (Addr × Obj)} {σ : St} {H : Hp} {s : Shared} {p : Addr} {xs : List V} (I : Inv X pins σ H s) (h : H p = some (.lst xs)) :
    ∃ (its : List Value) (n : Nat), Vals xs its ∧ s.heap.get? p = some { cls := .type "list", data := .seq its.toArray n } ∧ xs.length ≤ sizeLine := by
  obtain ⟨z, its, n, r, e⟩ := I.hok p _ h
  exact ⟨its, n, r, e, z⟩
theorem Inv.lstUpd {pins : List (Addr × Obj)} {σ : St} {H : Hp} {s : Shared} {p : Addr} {xs ys : List V} {its its' : List Value} {n n' : Nat} {f : Obj → Obj} (I : Inv X pins σ H s) (h : H p = some (.lst xs))
    (ho : s.heap.get? p = some { cls := .type "list", data := .seq its.toArray n }) (hf : f { cls := .type "list", data := .seq its.toArray n } = { cls := .type "list", data := .seq its'.toArray n' }) (r : Vals ys its') (hz : ys.length ≤ sizeLine) (t : Nat) :
    Inv X pins σ (upd H p (.lst ys)) { s with heap := s.heap.update p f, toks := t } := by
  have e : (s.heap.update p f).get? p = some { cls := .type "list", data := .seq its'.toArray n' } := by
    rw [Heap.get?_update_self f ho (by rw [hf] <;> rfl), hf]
  refine I.write (x := p) (e := p) (by rw [h]; trivial) (.inl rfl) (fun b u hb q => (Heap.get?_update_other _ _ (Ne.symm hb)).trans q) ⟨_, e⟩ ?_
  exact ⟨hz, its', n', r, e⟩
def rSetL : V → V → V → Hp → (Hp → Prop) → Prop := fun o i v H Q => ∃ p xs k j, o = .ref p ∧ i = .int k ∧ H p = some (.lst xs) ∧ ixN xs.length k = some j ∧ Q (upd H p (.lst (xs.set j v)))
theorem set_list : PSet X rSetL := by
  intro pins s σ H o i v ov iv u Q I ro ri rv h
  obtain ⟨p, xs, k, j, rfl, rfl, hp, hj, q⟩ := h
  cases ro
  obtain ⟨t, rfl⟩ := ri
  obtain ⟨its, n, r, ho, hz⟩ := I.lst hp
  obtain ⟨h1, h2, h3, h4⟩ := ixN_seq hj
  have hl := r.length
  have hn := line63
  have I' : Inv X pins σ (upd H p (.lst (xs.set j v))) { s with heap := s.heap.update p (Obj.mapSeq (·.setIfInBounds j u)) } :=
    I.lstUpd hp ho (mapSeq_set its n j u) (r.set rv j) (by rw [List.length_set]; exact hz) s.toks
  by_cases h0 : 0 ≤ k
  · have hk : k.toNat = j := by
      rw [seqIndex_of h0 h4] at h1
      exact Option.some.inj h1
    exact PySem.W.ki_setAt ho h0 (by omega) (by rw [List.size_toArray, ← hl]; exact h4) (by rw [hk]; exact ⟨_, I', q⟩)
  · have hk : (k + (its.toArray.size : Int)).toNat = j := by
      rw [seqIndex_neg (by omega) h3] at h1
      rw [List.size_toArray, ← hl]
      exact Option.some.inj h1
    exact PySem.W.ki_setBack ho (by omega) (by rw [List.size_toArray, ← hl]; exact h3) (by omega) (by rw [hk]; exact ⟨_, I', q⟩)
theorem slice_bounds (lo hi : Option Int) (n : Nat) : (sliceBounds lo hi none n).1 = ((HT.sIx n 0 lo : Nat) : Int) ∧ (sliceBounds lo hi none n).2.1 = ((HT.sIx n n hi : Nat) : Int) ∧ (sliceBounds lo hi none n).2.2 = 1 := by
  refine ⟨?_, ?_, rfl⟩
  · cases lo with
    | none => simp [sliceBounds, HT.sIx]
    | some i =>
      simp only [sliceBounds, HT.sIx, Option.getD_none, show (1 : Int) > 0 by decide, if_true]
      by_cases h : i < 0
      · simp only [h, if_true] <;> omega
      · simp only [h, if_false] <;> omega
  · cases hi with
    | none => simp [sliceBounds, HT.sIx]
    | some i =>
      simp only [sliceBounds, HT.sIx, Option.getD_none, show (1 : Int) > 0 by decide, if_true]
      by_cases h : i < 0
      · simp only [h, if_true] <;> omega
      · simp only [h, if_false] <;> omega
theorem slicePick_cut (its : List Value) (lo hi : Option Int) : slicePick its.toArray lo hi none = ((its.drop (HT.sIx its.length 0 lo)).take (HT.sIx its.length its.length hi - HT.sIx its.length 0 lo)).toArray := by
  obtain ⟨h1, h2, h3⟩ := slice_bounds lo hi its.toArray.size
  unfold slicePick
  rw [h1, h2, h3]
  simp only [sliceRange_one, pick_run, List.size_toArray] <;> rfl
def rSlL (K : PySem.W.Frag) : V → Option Int → Option Int → Hp → VK → Prop := fun x lo hi H Q => ∃ a xs, x = .ref a ∧ SqL K H a xs ∧ ∀ p, H p = none → Q (.ref p) (upd H p (.lst (cutV xs lo hi)))
theorem sl_list : SlR X (rSlL X.K) := by
  intro pins s σ H x v vl vu lo hi sl Q I rx hs pl pu h
  obtain ⟨a, xs, rfl, hx, q⟩ := h
  cases rx
  obtain ⟨its, r, ht, hz⟩ := I.list hx
  have hlen := r.length
  refine ⟨"list", _, slot_list_getitem.lookup, ht.isList.typeIs, ?_⟩
  refine wpAny_getItem_list_slice ht.isList hs pl pu .none (by simp) ?_ (by rw [List.size_toArray] <;> omega)
  rw [slicePick_cut, ← hlen]
  refine ⟨.ref s.heap.objs.size, _, I.laid (t' := s.toks) (o := .lst (cutV xs lo hi)) (fun b ob q => Heap.get?_push_of_some _ q) (Nat.le_refl _) ?_, rfl, q _ (I.hok.fresh (Nat.le_refl _))⟩
  exact ⟨Nat.le_trans (cutV_length xs lo hi) hz, _, 0, (r.drop (HT.sIx xs.length 0 lo)).take (HT.sIx xs.length xs.length hi - HT.sIx xs.length 0 lo), Heap.get?_push_size _ rfl⟩
def flatV : V → Bool
  | .non => true
  | .bl _ => true
  | .int _ => true
  | .str _ => true
  | _ => false
def eqV : V → V → Bool
  | .non, .non => true
  | .bl a, .bl b => a == b
  | .bl a, .int b => (if a then 1 else 0) == b
  | .int a, .bl b => a == (if b then 1 else 0)
  | .int a, .int b => a == b
  | .str a, .str b => a == b
  | _, _ => false
theorem eqAt_V {A : Around} {s : Shared} {y x : V} {u v : Value} (ry : RelV y u) (rx : RelV x v) (fy : flatV y = true) (fx : flatV x = true) : SeqAt.EqAt A s u v (eqV y x) := by
  cases y with
  | non =>
    cases ry
    cases x with
    | non => cases rx; exact SeqAt.EqAt.same _
    | bl b => cases rx; exact SeqAt.EqAt.none_bool b
    | int b => obtain ⟨t, rfl⟩ := rx; exact SeqAt.EqAt.none_int b t
    | str b => obtain ⟨t, rfl⟩ := rx; exact SeqAt.EqAt.none_str b t
    | _ => exact absurd (show false = true from fx) Bool.false_ne_true
  | bl a =>
    cases ry
    cases x with
    | non => cases rx; exact SeqAt.EqAt.bool_none a
    | bl b => cases rx; exact SeqAt.EqAt.bool_bool a b
    | int b => obtain ⟨t, rfl⟩ := rx; exact SeqAt.EqAt.bool_int a b t
    | str b => obtain ⟨t, rfl⟩ := rx; exact SeqAt.EqAt.bool_str a b t
    | _ => exact absurd (show false = true from fx) Bool.false_ne_true
  | int a =>
    obtain ⟨t', rfl⟩ := ry
    cases x with
    | non => cases rx; exact SeqAt.EqAt.int_none a t'
    | bl b => cases rx; exact SeqAt.EqAt.int_bool a t' b
    | int b => obtain ⟨t, rfl⟩ := rx; exact SeqAt.EqAt.int_int a t' b t
    | str b => obtain ⟨t, rfl⟩ := rx; exact SeqAt.EqAt.int_str a t' b t
    | _ => exact absurd (show false = true from fx) Bool.false_ne_true
  | str a =>
    obtain ⟨t', rfl⟩ := ry
    cases x with
    | non => cases rx; exact SeqAt.EqAt.str_none a t'
    | bl b => cases rx; exact SeqAt.EqAt.str_bool a t' b
    | int b => obtain ⟨t, rfl⟩ := rx; exact SeqAt.EqAt.str_int a t' b t
    | str b => obtain ⟨t, rfl⟩ := rx; exact SeqAt.EqAt.str_str a t' b t
    | _ => exact absurd (show false = true from fx) Bool.false_ne_true
  | _ => exact absurd (show false = true from fy) Bool.false_ne_true
def eqU (x : V) (u : Value) : Bool := match u with
  | .none => eqV .non x
  | .bool b => eqV (.bl b) x
  | .int i _ => eqV (.int i) x
  | .str z _ => eqV (.str z) x
  | _ => false
theorem eqU_of {x y : V} {u : Value} (r : RelV y u) (f : flatV y = true) : eqU x u = eqV y x := by
  cases y with
  | non => cases r; rfl
  | bl b => cases r; rfl
  | int i => obtain ⟨t, rfl⟩ := r; rfl
  | str z => obtain ⟨t, rfl⟩ := r; rfl
  | _ => exact absurd (show false = true from f) Bool.false_ne_true
theorem any_eqU {x : V} : ∀ {xs : List V} {us : List Value}, Vals xs us → xs.all flatV = true → us.any (eqU x) = xs.any fun y => eqV y x
  | _, _, .nil, _ => rfl
  | y :: xs, u :: us, .cons r t, f => by
    rw [List.all_cons, Bool.and_eq_true] at f
    rw [List.any_cons, List.any_cons, eqU_of r f.1, any_eqU t f.2]
theorem mem_eqAt {A : Around} {s : Shared} {x : V} {v : Value} (rx : RelV x v) (fx : flatV x = true) : ∀ {xs : List V} {us : List Value}, Vals xs us → xs.all flatV = true → ∀ u ∈ us, SeqAt.EqAt A s u v (eqU x u)
  | _, _, .nil, _ => fun u hu => by cases hu
  | y :: xs, u :: us, .cons r t, f => fun u' hu => by
    rw [List.all_cons, Bool.and_eq_true] at f
    rcases List.mem_cons.mp hu with rfl | hu
    · rw [eqU_of r f.1]; exact eqAt_V r rx f.1 fx
    · exact mem_eqAt rx fx t f.2 u' hu
def inV (x : V) (xs : List V) : Bool := xs.any fun y => eqV y x
def rIn (K : PySem.W.Frag) (neg : Bool) : R2 := fun x y H Q => ∃ p xs, y = .ref p ∧ (SqL K H p xs ∨ SqT K H p xs) ∧ flatV x = true ∧ xs.all flatV = true ∧ Q (.bl (if neg then !inV x xs else inV x xs)) H
theorem op_notIn_seq : OpR X (compareOp .NotIn) (rIn X.K true) := by
  intro pins s σ H x y v u Q I rx ry h
  obtain ⟨p, xs, rfl, hq, fx, fs, q⟩ := h
  cases ry
  rcases hq with hq | hq
  · obtain ⟨its, r, pl, hz⟩ := I.list hq
    refine SeqAt.notIn_listAt (eqU x) pl.isList (fun w hw => mem_eqAt rx fx r fs w (by simpa using hw)) ⟨.bl _, H, I, rfl, ?_⟩
    rw [show its.toArray.any (eqU x) = its.any (eqU x) by simp, any_eqU r fs]
    exact q
  · obtain ⟨its, r, pl, hz⟩ := I.tuple hq
    refine SeqAt.notIn_tupleAt (eqU x) pl (fun w hw => mem_eqAt rx fx r fs w (by simpa using hw)) ⟨.bl _, H, I, rfl, ?_⟩
    rw [show its.toArray.any (eqU x) = its.any (eqU x) by simp, any_eqU r fs]
    exact q
theorem call_len_seq : CallR X (.builtin "len") (fun xs H Q => ∃ p ys, xs = [.ref p] ∧ (SqL X.K H p ys ∨ SqT X.K H p ys) ∧ Q (.int ys.length) H) := by
  intro pins s σ H xs us Q I r h
  obtain ⟨p, ys, rfl, hq, q⟩ := h
  obtain ⟨u, rfl, rx⟩ := vals1 r
  cases rx
  have hn := line63
  rcases hq with hq | hq
  · obtain ⟨its, r', pl, hz⟩ := I.list hq
    have hlen := r'.length
    exact Calls.call_len_list pl.isList (by simp only [List.size_toArray] <;> omega) ⟨.int ys.length, H, I.tok _, ⟨s.toks + 1, by rw [List.size_toArray, hlen]⟩, q⟩
  · obtain ⟨its, r', pl, hz⟩ := I.tuple hq
    have hlen := r'.length
    exact len_tuple pl (by simp only [List.size_toArray] <;> omega) ⟨.int ys.length, H, I.tok _, ⟨s.toks + 1, by rw [List.size_toArray, hlen]⟩, q⟩
theorem call_list_of : CallR X (.type "list") (fun xs H Q => ∃ p ys, xs = [.ref p] ∧ (SqL X.K H p ys ∨ SqT X.K H p ys) ∧ ∀ l, H l = none → Q (.ref l) (upd H l (.lst ys))) := by
  intro pins s σ H xs us Q I r h
  obtain ⟨p, ys, rfl, hq, q⟩ := h
  obtain ⟨u, rfl, rx⟩ := vals1 r
  cases rx
  have fin : ∀ (its : List Value), Vals ys its → ys.length ≤ sizeLine → ∀ (h' : Heap) (c' : Nat), (∀ b o', s.heap.get? b = some o' → h'.get? b = some o') →
      h'.get? s.heap.objs.size = some { cls := .type "list", dict := none, data := .seq its.toArray c', slots := #[] } → EP X pins σ Q (.ref s.heap.objs.size) { s with heap := h' } := fun its r' hz h' c' kp e =>
    ⟨.ref s.heap.objs.size, _, I.laid (t' := s.toks) kp (Nat.le_refl _) (show ObjOk X.prog X.w _ h' _ (.lst ys) from ⟨hz, its, c', r', e⟩), rfl, q _ (I.hok.fresh (Nat.le_refl _))⟩
  rcases hq with hq | hq
  · obtain ⟨its, r', pl, hz⟩ := I.list hq
    have hlen := r'.length
    obtain ⟨o, ho, hc, n, hd⟩ := pl.isList
    exact call_list_seq p (.inl rfl) ho hc hd (fun h' c' kp e => fin its r' hz h' c' kp e) (by simp only [List.size_toArray] <;> omega)
  · obtain ⟨its, r', pl, hz⟩ := I.tuple hq
    have hlen := r'.length
    obtain ⟨o, ho, hc, n, hd⟩ := pl
    exact call_list_seq p (.inr rfl) ho hc hd (fun h' c' kp e => fin its r' hz h' c' kp e) (by simp only [List.size_toArray] <;> omega)
def tyV (K : PySem.W.Frag) (T : String) (x : V) (H : Hp) : Prop := match x with
  | .str _ => T = "str"
  | .int _ => T = "int"
  | .ref p => (T = "list" ∧ ∃ xs, SqL K H p xs) ∨ (T = "tuple" ∧ ∃ o, K.lookup p = some o ∧ o.cls = .type "tuple" ∧ o.dict = none) ∨
      (T = "dict" ∧ ((∃ kvs, H p = some (.dK kvs)) ∨ ∃ kvs, H p = some (.dT kvs))) ∨ (T = "set" ∧ ∃ S n, H p = some (.set S n))
  | _ => False
theorem tyV_is {pins : List (Addr × Obj)} {σ : St} {H : Hp} {s : Shared} {T : String} {x : V} {v : Value} (I : Inv X pins σ H s) (r : RelV x v) (ty : tyV X.K T x H) :
    s.TypeIs v T ∧ ∀ a, v = .ref a → ∃ ob, s.heap.get? a = some ob ∧ ob.dict = none := by
  cases x with
  | str z =>
    obtain ⟨t, rfl⟩ := r
    cases (show T = "str" from ty)
    exact ⟨typeIs_str s z t, fun _ e => nomatch e⟩
  | int i =>
    obtain ⟨t, rfl⟩ := r
    cases (show T = "int" from ty)
    exact ⟨typeIs_int s i t, fun _ e => nomatch e⟩
  | ref p =>
    cases r
    rcases ty with ⟨rfl, xs, hq⟩ | ⟨rfl, o, hk, hc, hd⟩ | ⟨rfl, hk⟩ | ⟨rfl, S, n, hk⟩
    · obtain ⟨its, _, pl, _⟩ := I.list hq
      refine ⟨pl.isList.typeIs, fun a e => ?_⟩
      cases e
      obtain ⟨o, n, e, c, hd, _⟩ := pl
      exact ⟨o, e, hd⟩
    · refine ⟨⟨o, I.kIn p o hk, hc⟩, fun a e => ?_⟩
      cases e
      exact ⟨o, I.kIn _ o hk, hd⟩
    · have z : ∃ o, s.heap.get? p = some o ∧ o.ExactDict := by
        rcases hk with ⟨kvs, hk⟩ | ⟨kvs, hk⟩
        · obtain ⟨_, _, _, _, o, _, _, e, ex, _⟩ := I.hok p _ hk
          exact ⟨o, e, ex⟩
        · obtain ⟨_, _, _, _, o, _, _, e, ex, _⟩ := I.hok p _ hk
          exact ⟨o, e, ex⟩
      obtain ⟨o, e, ex⟩ := z
      refine ⟨⟨o, e, ex.1⟩, fun a e2 => ?_⟩
      cases e2
      exact ⟨o, e, ex.2.1⟩
    · obtain ⟨o, _, _, _, e, ex, _⟩ := I.hok p _ hk
      refine ⟨⟨o, e, ex.1⟩, fun a e2 => ?_⟩
      cases e2
      exact ⟨o, e, ex.2.1⟩
  | _ => exact False.elim ty
def tBM0 (K : PySem.W.Frag) (T : String) (r : V → List V → Hp → VK → Prop) (to : TE) : TE := fun σ H Q => to σ H fun x H1 => tyV K T x H1 ∧ r x [] H1 Q
def tBM (K : PySem.W.Frag) (T : String) (r : V → List V → Hp → VK → Prop) (to : TE) (t : TA) : TE := fun σ H Q => to σ H fun x H1 => tyV K T x H1 ∧ t σ H1 fun xs H2 => r x xs H2 Q
variable {o e : Expr} {es : List Expr} {to : TE} {t : TA} {name : Str} {apos cpos : Pos} {T id : String} {r : V → List V → Hp → VK → Prop}
theorem pe_bm0 (pa : PlainAttrs T) (slot : Slot T name id) (hty : typeOf (.builtin id) = pure (.type "method_descriptor")) (hm : MtR X id r) (ho : PE X o to)
    (hbase : attributeBase o name X.env (eval o X.env) = eval o X.env := by rfl) (hline : (apos.endLine == cpos.line) = true := by rfl) : PE X (.Call (.Attribute o name apos) [] [] cpos) (tBM0 X.K T r to) := by
  intro pins s σ H Q I h
  refine wpAny_Call_method0_late hbase hline (thn (ho pins s σ H _ I h) fun v s1 ⟨x, H1, I1, r1, ty, q1⟩ => ?_)
  obtain ⟨h1, h2⟩ := tyV_is I1 r1 ty
  exact ⟨T, id, pa, slot, hty, h1, h2, Calls.callWith_builtin rfl (PySem.evalArgs_none (hm pins s1 σ H1 x [] v [] Q I1 r1 .nil q1))⟩
theorem pe_bm (pa : PlainAttrs T) (slot : Slot T name id) (hty : typeOf (.builtin id) = pure (.type "method_descriptor")) (hm : MtR X id r) (ho : PE X o to) (ha : PA X (e :: es) t)
    (hbase : attributeBase o name X.env (eval o X.env) = eval o X.env := by rfl)
    (hfew : ((backTo cpos (starEach (e :: es) X.env)).all (fun x => !x.1) && (backToKw cpos (keywordEach [] X.env)).all (fun x => x.1.isSome)
      && decide ((e :: es).length + ([] : List Keyword).length + (if ([] : List Keyword).isEmpty then 0 else 1) < 30)) = true := by rfl)
    (hline : (apos.endLine == cpos.line) = true := by rfl) (hs : starEach (e :: es) X.env = (false, eval e X.env) :: starEach es X.env := by rfl) (hplain : (backTo cpos (starEach es X.env)).any (·.1) = false := by rfl) :
    PE X (.Call (.Attribute o name apos) (e :: es) [] cpos) (tBM X.K T r to t) := by
  intro pins s σ H Q I h
  refine wpAny_Call_method_late hbase hfew hline rfl (thn (ho pins s σ H _ I h) fun v s1 ⟨x, H1, I1, r1, ty, q1⟩ => ?_)
  obtain ⟨h1, h2⟩ := tyV_is I1 r1 ty
  refine ⟨T, id, pa, slot, hty, h1, h2, ?_⟩
  have hA := ha cpos pins s1 σ H1 _ I1 q1
  rw [hs] at hA ⊢
  refine Calls.callWith_builtin (by show (false || (backTo cpos (starEach es X.env)).any (·.1)) = false; rw [hplain] <;> rfl) (Calls.evalArgs_plain ?_)
  exact thn hA fun us s2 ⟨vs, H2, I2, r2, q2⟩ => hm pins s2 σ H2 x vs v us Q I2 r1 r2 q2
end
end L2
namespace L2
open PySem PySem.Spec PyProof.Rows
def MtM (X : Cx) (id : String) (r : V → List V → Hp → VK → Prop) : Prop :=
  ∀ (pins : List (Addr × Obj)) (s : Shared) (σ : St) (H : Hp) (x : V) (xs : List V) (v : Value) (us : List Value) (Q : VK), Inv X pins σ H s → RelV x v → Vals xs us → r x xs H Q →
    wpAny (model X.prog X.w) X.A (call (.builtin id) (v :: us)) (EP X pins σ Q) X.xe s
theorem Vals.one : ∀ {x : V} {us : List Value}, Vals [x] us → ∃ u, us = [u] ∧ RelV x u
  | _, _, .cons r .nil => ⟨_, rfl, r⟩
theorem Vals.zero : ∀ {us : List Value}, Vals [] us → us = []
  | _, .nil => rfl
theorem Vals.eraseIdx : ∀ {xs : List V} {us : List Value} (i : Nat), Vals xs us → Vals (xs.eraseIdx i) (us.eraseIdx i)
  | _, _, _, .nil => .nil
  | _, _, 0, .cons _ t => t
  | _, _, i + 1, .cons r t => .cons r (Vals.eraseIdx i t)
theorem Vals.reverse {xs : List V} {us : List Value} (h : Vals xs us) : Vals xs.reverse us.reverse := by
  induction h with
  | nil => exact .nil
  | cons r t ih => rw [List.reverse_cons, List.reverse_cons]; exact Vals.append ih (.cons r .nil)
theorem Vals.rep {xs : List V} {us : List Value} (h : Vals xs us) : ∀ k : Nat, Vals (List.replicate k xs).flatten (List.replicate k us).flatten
  | 0 => .nil
  | k + 1 => by
    rw [List.replicate_succ, List.replicate_succ, List.flatten_cons, List.flatten_cons]
    exact Vals.append h (Vals.rep h k)
theorem len_erase {α : Type} : ∀ (l : List α) (i : Nat), (l.eraseIdx i).length ≤ l.length
  | [], _ => Nat.le_refl _
  | _ :: _, 0 => Nat.le_succ _
  | _ :: r, i + 1 => Nat.succ_le_succ (len_erase r i)
theorem foldl_rep (its : List Value) : ∀ (k : Nat) (acc : List Value),
    List.foldl (fun x1 x2 => x1 ++ x2) acc.toArray (List.replicate k its.toArray) = (acc ++ (List.replicate k its).flatten).toArray
  | 0, acc => by simp
  | k + 1, acc => by
    have e : acc.toArray ++ its.toArray = (acc ++ its).toArray := by simp
    have e2 : (acc ++ its) ++ (List.replicate k its).flatten = acc ++ (List.replicate (k + 1) its).flatten := by
      rw [List.replicate_succ, List.flatten_cons, List.append_assoc]
    rw [← e2, ← foldl_rep its k (acc ++ its), ← e, List.replicate_succ, List.foldl_cons]
section
variable {X : Cx} {pins : List (Addr × Obj)} {σ : St} {H : Hp} {s : Shared} {l b : Addr} {xs ys zs : List V}
theorem Inv.lset {its its' : List Value} {n : Nat} {f : Array Value → Array Value} {t' : Nat} (I : Inv X pins σ H s) (hH : H l = some (.lst xs))
    (e : s.heap.get? l = some { cls := .type "list", data := .seq its.toArray n }) (hf : f its.toArray = its'.toArray) (hv : Vals ys its') (hz : ys.length ≤ sizeLine) :
    Inv X pins σ (upd H l (.lst ys)) { s with heap := s.heap.update l (Obj.mapSeq f), toks := t' } := by
  have q := PySem.IsL.update e f
  rw [hf] at q
  refine I.write (x := l) (e := l) (by rw [hH]; exact trivial) (.inl rfl) (fun b' u hb hu => (Heap.get?_update_other s.heap (Obj.mapSeq f) (Ne.symm hb)).trans hu) ⟨_, q⟩ ?_
  exact ⟨hz, its', _, hv, q⟩
theorem Inv.lnew {its : List Value} {t' : Nat} (I : Inv X pins σ H s) (hv : Vals ys its) (hz : ys.length ≤ sizeLine) :
    Inv X pins σ (upd H s.heap.objs.size (.lst ys)) { s with heap := s.heap.push { cls := .type "list", data := .seq its.toArray }, toks := t' } :=
  I.laid (fun _ _ q => Heap.get?_push_of_some _ q) (Nat.le_refl _) ⟨hz, its, 0, hv, Heap.get?_push_size _ rfl⟩
theorem Inv.fresh (I : Inv X pins σ H s) : H s.heap.objs.size = none := I.hok.fresh (Nat.le_refl _)
theorem Inv.lstM (I : Inv X pins σ H s) (hH : H l = some (.lst xs)) : xs.length ≤ sizeLine ∧ ∃ (its : List Value) (n : Nat), Vals xs its ∧ xs.length = its.length ∧ s.heap.get? l = some { cls := .type "list", data := .seq its.toArray n } := by
  obtain ⟨z, its, n, r, e⟩ := I.hok l _ hH
  exact ⟨z, its, n, r, r.length, e⟩
theorem notLongL {n : Nat} (h : n ≤ sizeLine) : Builtin.List.listTooLong n = false := by
  unfold Builtin.List.listTooLong
  exact decide_eq_false (by omega)
end
section
variable {X : Cx}
def rAppend : V → List V → Hp → VK → Prop := fun x vs H Q => ∃ l xs y, x = .ref l ∧ vs = [y] ∧ H l = some (.lst xs) ∧ xs.length < sizeLine ∧ Q .non (upd H l (.lst (xs ++ [y])))
theorem mt_append : MtM X "list.append" rAppend := by
  intro pins s σ H x vs v us Q I rx rv h
  obtain ⟨l, xs, y, rfl, rfl, hH, hz, q⟩ := h
  cases rx
  obtain ⟨u, rfl, ru⟩ := rv.one
  obtain ⟨z, its, n, r, hl, e⟩ := I.lstM hH
  refine call_meets F.slot_list_append ⟨_, e, rfl⟩ F.entry_list_append (F.args_list_append_2 _ _) (PySem.list_append l its.toArray n u (by rw [List.size_toArray]; omega)) ⟨e, ?_⟩
  refine ⟨.non, _, I.lset (its' := its ++ [u]) hH e (by simp) (r.append (.cons ru .nil)) ?_, rfl, q⟩
  rw [List.length_append, List.length_singleton]
  omega
def rPopAt : V → List V → Hp → VK → Prop := fun x vs H Q => ∃ l xs i k y, x = .ref l ∧ vs = [.int i] ∧ H l = some (.lst xs) ∧ -(2 ^ 63) ≤ i ∧ i < 2 ^ 63 ∧ seqIndex? i xs.length = some k ∧ xs[k]? = some y ∧ Q y (upd H l (.lst (xs.eraseIdx k)))
theorem mt_popAt : MtM X "list.pop" rPopAt := by
  intro pins s σ H x vs v us Q I rx rv h
  obtain ⟨l, xs, i, k, y, rfl, rfl, hH, h1, h2, hk, hy, q⟩ := h
  cases rx
  obtain ⟨u, rfl, ru⟩ := rv.one
  obtain ⟨t, rfl⟩ := ru
  obtain ⟨z, its, n, r, hl, e⟩ := I.lstM hH
  obtain ⟨w, hw, rw'⟩ := r.get hy
  refine call_meets F.slot_list_pop ⟨_, e, rfl⟩ F.entry_list_pop (F.args_list_pop_2 _ _)
    (MeetsSeq.list_pop_at l its.toArray n i t k w (fitsIndex_both h1 h2) (by rw [List.size_toArray, ← hl]; exact hk) (by rw [← Array.getElem?_toList]; exact hw) (by rw [List.size_toArray]; omega)) ⟨e, ?_⟩
  refine ⟨y, _, I.lset (its' := its.eraseIdx k) hH e ?_ (r.eraseIdx k) ?_, rw', q⟩
  · show its.toArray.eraseIdxIfInBounds k = (its.eraseIdx k).toArray
    rw [List.eraseIdxIfInBounds_toArray]
  · have := len_erase xs k
    omega
def rCat : R2 := fun x y H Q => ∃ l b xs zs, x = .ref l ∧ y = .ref b ∧ H l = some (.lst xs) ∧ H b = some (.lst zs) ∧ xs.length + zs.length ≤ sizeLine ∧ ∀ p, H p = none → Q (.ref p) (upd H p (.lst (xs ++ zs)))
theorem op_cat : OpR X (binaryOp .Add) rCat := by
  intro pins s σ H x y v u Q I rx ry h
  obtain ⟨l, b, xs, zs, rfl, rfl, hH, hB, hz, q⟩ := h
  cases rx
  cases ry
  obtain ⟨z, its, n, r, hl, e⟩ := I.lstM hH
  obtain ⟨z2, its2, n2, r2, hl2, e2⟩ := I.lstM hB
  refine PySem.P.add_list e e2 ?_ (by rw [List.size_toArray, List.size_toArray]; omega)
  have ea : its.toArray ++ its2.toArray = (its ++ its2).toArray := by simp
  rw [ea]
  exact ⟨.ref _, _, I.lnew (t' := s.toks) (r.append r2) (by rw [List.length_append]; omega), rfl, q _ I.fresh⟩
def rRep : R2 := fun x y H Q => ∃ l k xs, x = .ref l ∧ y = .int k ∧ H l = some (.lst xs) ∧ -(2 ^ 63) ≤ k ∧ k < 2 ^ 63 ∧ xs.length * k.toNat ≤ sizeLine ∧
  ∀ p, H p = none → Q (.ref p) (upd H p (.lst (List.replicate k.toNat xs).flatten))
theorem len_rep {α : Type} (xs : List α) (k : Nat) : (List.replicate k xs).flatten.length = k * xs.length := by
  induction k with
  | zero => simp
  | succ k ih => rw [List.replicate_succ, List.flatten_cons, List.length_append, ih, Nat.succ_mul, Nat.add_comm]
theorem op_rep : OpR X (binaryOp .Mult) rRep := by
  intro pins s σ H x y v u Q I rx ry h
  obtain ⟨l, k, xs, rfl, rfl, hH, h1, h2, hz, q⟩ := h
  cases rx
  obtain ⟨t, rfl⟩ := ry
  obtain ⟨z, its, n, r, hl, e⟩ := I.lstM hH
  have hlen : its.toArray.size * k.toNat ≤ sizeLine := by rw [List.size_toArray, ← hl]; exact hz
  have hcap : ¬ its.toArray.size * k.toNat > (2 ^ 63 - 1) / 8 := by
    have : (sizeLine : Nat) ≤ (2 ^ 63 - 1) / 8 := by decide
    omega
  have hfit : ¬ (!Builtin.List.listFitsIndex k) = true := by
    rw [fitsIndex_both h1 h2]
    exact Bool.false_ne_true
  have hlong : ¬ Builtin.List.listTooLong (its.toArray.size * k.toNat) = true := by
    rw [notLongL hlen]
    exact Bool.false_ne_true
  have hnew : List.foldl (fun x1 x2 => x1 ++ x2) #[] (List.replicate (if its.toArray.isEmpty = true then 0 else k.toNat) its.toArray) = (List.replicate k.toNat its).flatten.toArray := by
    have f0 : ∀ m : Nat, List.foldl (fun x1 x2 => x1 ++ x2) #[] (List.replicate m its.toArray) = (List.replicate m its).flatten.toArray := fun m => by
      have := foldl_rep its m []
      rw [List.nil_append] at this
      exact this
    rw [f0]
    cases its with
    | nil => simp
    | cons a r' => rw [if_neg (by simp)]
  refine wpAny_binaryOp_repeat_ref (T := "list") (U := "int") (by decide) ⟨_, e, rfl⟩ (fun s' => typeIs_int s' k t) noFill_list_mul F.fills_int_mul F.slot_int_rmul repeat_list F.slot_int_index.lookup
    (call_meets F.slot_int_rmul (typeIs_int s k t) F.entry_int_rmul (F.args_int_rmul_2 _ _) (int___rmul___int_list k t l its.toArray n)
      ⟨e, rfl, ⟨_, e, rfl⟩, call_meets F.slot_list_mul ⟨_, e, rfl⟩ F.entry_list_mul (F.args_list_mul_2 _ _) (AutoListH.list___mul___list_int_3 l its.toArray n k t hfit hcap hlong) ⟨e, ?_⟩⟩)
  rw [hnew]
  exact ⟨.ref _, _, I.lnew (t' := s.toks) (r.rep k.toNat) (by rw [len_rep, Nat.mul_comm]; exact hz), rfl, q _ I.fresh⟩
end
section
variable {prog : Program} {w : World} {A : Around} {E : Value → Shared → Prop} {s : Shared}
end
section
variable {X : Cx}
end
end L2
namespace L2
open PySem PySem.Spec PyProof.Rows
section
variable {κ : Type} [DecidableEq κ]
def valV (kvs : List (κ × V)) (k : κ) : Option V := (kvs.find? fun kv => decide (kv.1 = k)).map (·.2)
def putK (kvs : List (κ × V)) (k : κ) (v : V) : List (κ × V) :=
  if (kvs.any fun kv => decide (kv.1 = k)) = true then kvs.map (fun kv => if kv.1 = k then (kv.1, v) else kv) else kvs ++ [(k, v)]
def dropK (kvs : List (κ × V)) (k : κ) : List (κ × V) := kvs.filter fun kv => decide (kv.1 ≠ k)
theorem valV_pos {p : κ × V} {r : List (κ × V)} {k : κ} (e : p.1 = k) : valV (p :: r) k = some p.2 := by simp [valV, List.find?_cons, e]
theorem valV_neg {p : κ × V} {r : List (κ × V)} {k : κ} (e : ¬ p.1 = k) : valV (p :: r) k = valV r k := by simp [valV, List.find?_cons, e]
theorem valV_any (k : κ) : ∀ kvs : List (κ × V), (kvs.any fun kv => decide (kv.1 = k)) = (valV kvs k).isSome
  | [] => rfl
  | p :: r => by
    rw [List.any_cons]
    by_cases e : p.1 = k
    · simp only [valV_pos e, decide_eq_true e, Bool.true_or, Option.isSome_some]
    · rw [valV_neg e, decide_eq_false e, Bool.false_or]; exact valV_any k r
theorem RelO.isSome_eq {o : Option V} {u : Option Value} (r : RelO o u) : o.isSome = u.isSome := by
  cases o with
  | none => cases u with
    | none => rfl
    | some _ => exact (show False from r).elim
  | some _ => cases u with
    | none => exact (show False from r).elim
    | some _ => rfl
theorem RelO.getD {o : Option V} {u : Option Value} {d : V} {d' : Value} (r : RelO o u) (rd : RelV d d') : RelV (o.getD d) (u.getD d') := by
  cases o with
  | none => cases u with
    | none => exact rd
    | some _ => exact (show False from r).elim
  | some _ => cases u with
    | none => exact (show False from r).elim
    | some _ => exact r
theorem KV.val {kvs : List (κ × V)} {vs : List (κ × Value)} (r : KV kvs vs) (k : κ) : RelO (valV kvs k) (valueAt vs k) := by
  unfold KV at r
  induction r with
  | nil => exact True.intro
  | @cons p q ps qs h t ih =>
    obtain ⟨h1, h2⟩ := h
    by_cases e : p.1 = k
    · have e' : q.1 = k := h1.symm.trans e
      have b : valueAt (q :: qs) k = some q.2 := by simp [valueAt, List.find?_cons, e']
      rw [valV_pos e, b]; exact h2
    · have e' : ¬ q.1 = k := fun z => e (h1.trans z)
      have b : valueAt (q :: qs) k = valueAt qs k := by simp [valueAt, List.find?_cons, e']
      rw [valV_neg e, b]; exact ih
theorem KV.any {kvs : List (κ × V)} {vs : List (κ × Value)} (r : KV kvs vs) (k : κ) : (kvs.any fun kv => decide (kv.1 = k)) = vs.any fun kv => decide (kv.1 = k) := by
  unfold KV at r
  induction r with
  | nil => rfl
  | cons h t ih => rw [List.any_cons, List.any_cons, ih, h.1]
theorem KV.repl {kvs : List (κ × V)} {vs : List (κ × Value)} (r : KV kvs vs) (k : κ) {y : V} {u : Value} (ry : RelV y u) :
    KV (kvs.map fun kv => if kv.1 = k then (kv.1, y) else kv) (vs.map fun kv => if kv.1 = k then (kv.1, u) else kv) := by
  unfold KV at r ⊢
  induction r with
  | nil => exact .nil
  | @cons p q ps qs h t ih =>
    rw [List.map_cons, List.map_cons]
    refine .cons ?_ ih
    obtain ⟨h1, h2⟩ := h
    by_cases e : p.1 = k
    · rw [if_pos e, if_pos (h1.symm.trans e)]; exact ⟨h1, ry⟩
    · rw [if_neg e, if_neg (fun z => e (h1.trans z))]; exact ⟨h1, h2⟩
theorem KV.put {kvs : List (κ × V)} {vs : List (κ × Value)} (r : KV kvs vs) (k : κ) {y : V} {u : Value} (ry : RelV y u) : KV (putK kvs k y) (stored vs k u) := by
  unfold putK stored
  rw [r.any k]
  by_cases e : (vs.any fun kv => decide (kv.1 = k)) = true
  · rw [if_pos e, if_pos e]; exact r.repl k ry
  · rw [if_neg e, if_neg e]; exact Paired.snoc r ⟨rfl, ry⟩
theorem KV.drop {kvs : List (κ × V)} {vs : List (κ × Value)} (r : KV kvs vs) (k : κ) : KV (dropK kvs k) (without vs k) := by
  unfold KV at r ⊢
  unfold dropK without
  induction r with
  | nil => exact .nil
  | @cons p q ps qs h t ih =>
    obtain ⟨h1, h2⟩ := h
    rw [List.filter_cons, List.filter_cons]
    by_cases e : p.1 = k
    · have a : ¬ decide (p.1 ≠ k) = true := by simp [e]
      have b : ¬ decide (q.1 ≠ k) = true := by simp [h1.symm.trans e]
      rw [if_neg a, if_neg b]; exact ih
    · have e' : ¬ q.1 = k := fun z => e (h1.trans z)
      have a : decide (p.1 ≠ k) = true := by simp [e]
      have b : decide (q.1 ≠ k) = true := by simp [e']
      rw [if_pos a, if_pos b]; exact .cons ⟨h1, h2⟩ ih
theorem KV.keys {kvs : List (κ × V)} {vs : List (κ × Value)} (r : KV kvs vs) : kvs.map (·.1) = vs.map (·.1) := by
  unfold KV at r
  induction r with
  | nil => rfl
  | cons h t ih => rw [List.map_cons, List.map_cons, ih, h.1]
theorem KV.length {kvs : List (κ × V)} {vs : List (κ × Value)} (r : KV kvs vs) : kvs.length = vs.length := Paired.length r
end
abbrev KT (H : Hp) : List (List Key × V) → List (List Key × Addr × Value) → Prop := Paired fun p q => p.1 = q.1 ∧ H q.2.1 = some (.tup (p.1.map kV)) ∧ RelV p.2 q.2.2
theorem KT.val {H : Hp} {kvs : List (List Key × V)} {xs : List (List Key × Addr × Value)} (r : KT H kvs xs) (k : List Key) : RelO (valV kvs k) ((atKey xs k).map (·.2)) := by
  induction r with
  | nil => exact True.intro
  | @cons p q ps qs h t ih =>
    obtain ⟨h1, _, h2⟩ := h
    by_cases e : p.1 = k
    · have e' : q.1 = k := h1.symm.trans e
      have b : atKey (q :: qs) k = some q.2 := by simp [atKey, List.find?_cons, e']
      rw [valV_pos e, b]; exact h2
    · have e' : ¬ q.1 = k := fun z => e (h1.trans z)
      have b : atKey (q :: qs) k = atKey qs k := by simp [atKey, List.find?_cons, e']
      rw [valV_neg e, b]; exact ih
theorem KT.repl {H : Hp} {kvs : List (List Key × V)} {xs : List (List Key × Addr × Value)} (r : KT H kvs xs) (k : List Key) {y : V} {u : Value} (ry : RelV y u) :
    KT H (kvs.map fun kv => if kv.1 = k then (kv.1, y) else kv) (xs.map (putAt k u)) := by
  induction r with
  | nil => exact .nil
  | @cons p q ps qs h t ih =>
    rw [List.map_cons, List.map_cons]
    refine .cons ?_ ih
    obtain ⟨h1, h2, h3⟩ := h
    unfold putAt
    by_cases e : p.1 = k
    · rw [if_pos e, if_pos (h1.symm.trans e)]; exact ⟨h1, h2, ry⟩
    · rw [if_neg e, if_neg (fun z => e (h1.trans z))]; exact ⟨h1, h2, h3⟩
theorem KT.put {H : Hp} {kvs : List (List Key × V)} {xs : List (List Key × Addr × Value)} (r : KT H kvs xs) (k : List Key) {b : Addr} {y : V} {u : Value} (hb : H b = some (.tup (k.map kV))) (ry : RelV y u) :
    KT H (putK kvs k y) (storedH xs k b u) := by
  have e : (kvs.any fun kv => decide (kv.1 = k)) = (atKey xs k).isSome := by
    rw [valV_any, (r.val k).isSome_eq, Option.isSome_map]
  unfold putK storedH
  rw [e]
  by_cases q : (atKey xs k).isSome = true
  · rw [if_pos q, if_pos q]; exact r.repl k ry
  · rw [if_neg q, if_neg q]; exact Paired.snoc r ⟨rfl, hb, ry⟩
theorem KT.keeps {H H' : Hp} {kvs : List (List Key × V)} {xs : List (List Key × Addr × Value)} (r : KT H kvs xs) (ht : ∀ b ys, H b = some (.tup ys) → H' b = some (.tup ys)) : KT H' kvs xs :=
  Paired.mapP r fun _ _ z => ⟨z.1, ht _ _ z.2.1, z.2.2⟩
section
variable {P : Program} {w : World} {H : Hp} {h : Heap} {a : Addr}
end
def DGet (H : Hp) (a : Addr) (y : V) (r : Option V) : Prop :=
  (∃ kvs k, Rd H a (.dK kvs) ∧ y = kV k ∧ r = valV kvs k) ∨ ∃ kvs k b, Rd H a (.dT kvs) ∧ y = .ref b ∧ H b = some (.tup (k.map kV)) ∧ r = valV kvs k
def DPut (H : Hp) (a : Addr) (y v : V) (H' : Hp) : Prop :=
  (∃ kvs k, H a = some (.dK kvs) ∧ y = kV k ∧ kvs.length < sizeLine ∧ H' = upd H a (.dK (putK kvs k v))) ∨
  ∃ kvs k b, H a = some (.dT kvs) ∧ y = .ref b ∧ H b = some (.tup (k.map kV)) ∧ kvs.length < sizeLine ∧ H' = upd H a (.dT (putK kvs k v))
theorem DGet.k {H : Hp} {a : Addr} {kvs : List (Key × V)} {k : Key} (e : H a = some (.dK kvs)) : DGet H a (kV k) (valV kvs k) := .inl ⟨kvs, k, .inl e, rfl, rfl⟩
theorem DGet.t {H : Hp} {a b : Addr} {kvs : List (List Key × V)} {k : List Key} (e : H a = some (.dT kvs)) (eb : H b = some (.tup (k.map kV))) : DGet H a (.ref b) (valV kvs k) := .inr ⟨kvs, k, b, .inl e, rfl, eb, rfl⟩
theorem DPut.k {H : Hp} {a : Addr} {kvs : List (Key × V)} {k : Key} {v : V} (e : H a = some (.dK kvs)) (hl : kvs.length < sizeLine) : DPut H a (kV k) v (upd H a (.dK (putK kvs k v))) := .inl ⟨kvs, k, e, rfl, hl, rfl⟩
theorem DPut.t {H : Hp} {a b : Addr} {kvs : List (List Key × V)} {k : List Key} {v : V} (e : H a = some (.dT kvs)) (eb : H b = some (.tup (k.map kV))) (hl : kvs.length < sizeLine) :
    DPut H a (.ref b) v (upd H a (.dT (putK kvs k v))) := .inr ⟨kvs, k, b, e, rfl, eb, hl, rfl⟩
section
variable {X : Cx} {pins : List (Addr × Obj)} {σ : St} {H : Hp} {s : Shared} {a : Addr} {y v : V} {u r : Value} {o : Option V} {A : Around} {E : Value → Shared → Prop}
end
section
variable {X : Cx} {pins : List (Addr × Obj)} {σ : St} {H : Hp} {s : Shared} {a : Addr} {kvs : List (Key × V)} {k : Key} {u : Value} {A : Around} {E : Value → Shared → Prop}
end
section
variable {X : Cx} {o i e value : Expr} {pos pos' tpos : Pos} {td ty tv : TE}
end
section
variable {X : Cx} {pos : Pos}
end
structure M1 (X : Cx) (o : Expr) (m : Str) (apos : Pos) (e : Expr) (cpos : Pos) : Prop where
  base : attributeBase o m X.env (eval o X.env) = eval o X.env
  few : ((backTo cpos (starEach [e] X.env)).all (fun x => !x.1) && (backToKw cpos (keywordEach [] X.env)).all (fun x => x.1.isSome)
    && decide (([e] : List Expr).length + ([] : List Keyword).length + (if ([] : List Keyword).isEmpty then 0 else 1) < 30)) = true
  line : (apos.endLine == cpos.line) = true
  trees : backTo cpos (starEach [e] X.env) = [(false, eval e X.env)]
structure M2 (X : Cx) (o : Expr) (m : Str) (apos : Pos) (e f : Expr) (cpos : Pos) : Prop where
  base : attributeBase o m X.env (eval o X.env) = eval o X.env
  few : ((backTo cpos (starEach [e, f] X.env)).all (fun x => !x.1) && (backToKw cpos (keywordEach [] X.env)).all (fun x => x.1.isSome)
    && decide (([e, f] : List Expr).length + ([] : List Keyword).length + (if ([] : List Keyword).isEmpty then 0 else 1) < 30)) = true
  line : (apos.endLine == cpos.line) = true
  trees : backTo cpos (starEach [e, f] X.env) = [(false, eval e X.env), (false, eval f X.env)]
section
variable {X : Cx} {pins : List (Addr × Obj)} {σ : St} {H : Hp} {s : Shared} {a : Addr} {y d : V} {u r : Value} {o : Option V} {A : Around} {E : Value → Shared → Prop}
end
section
variable {X : Cx} {o e f : Expr} {apos cpos : Pos} {td ty tx : TE}
end
section
variable {X : Cx} {pins : List (Addr × Obj)} {σ : St} {H : Hp} {s : Shared} {a : Addr} {kvs : List (Key × V)} {A : Around} {E : Value → Shared → Prop}
end
section
variable {X : Cx} {pins : List (Addr × Obj)} {σ : St} {H : Hp} {s : Shared} {a : Addr} {y : V} {u : Value} {A : Around} {E : Value → Shared → Prop}
end
end L2
namespace Att
open PySem PySem.W PySem.Calls PyProof.Rows
theorem ints_of_wellAll {P : Params} {h : Heap} : ∀ (ns : List Int) (vs : List Value), WellAll P h vs (ns.map WData.int) → IntsAre vs ns := by
  intro ns
  induction ns with
  | nil =>
    intro vs w
    rw [List.map_nil] at w
    cases w
    exact .nil
  | cons n ns ih =>
    intro vs w
    rw [List.map_cons] at w
    cases w with
    | cons a b =>
      cases a
      exact .cons _ _ (ih _ b)
theorem script_of {l : OpenLaw} {n : Nat} (hn : l.most = some n) {P : Params} {h : Heap} {args : List WData} {vals : List Value}
    (hpre : l.row.toRowW.claim.pre args = true) (hwl : WellAll P h vals args) :
    ∃ a vs ns, vals = [Value.ref a] ∧ args = [WData.list (ns.map WData.int)] ∧ h.get? a = some { cls := .type "list", data := .seq vs.toArray } ∧ IntsAre vs ns ∧ ns.length ≤ n := by
  have hsh : WShape.hasAll [] args [.list .int] = true := (pre_splitW hpre).1
  have hc : l.pre.holds [] { args := args } = true := (pre_splitW hpre).2
  obtain ⟨d, r, rfl, h1, h2⟩ := hasAllW_cons hsh
  obtain rfl := hasAllW_nil h2
  obtain ⟨xs, rfl, h3⟩ := hasW_list h1
  obtain ⟨ns, rfl⟩ := items_int h3
  have hlen : ns.length ≤ n := by
    unfold OpenLaw.pre at hc
    have h4 : (WTm.not (.lt (.lit (.int (n : Int))) (.len (.arg 0)))).holds [] { args := [.list (ns.map .int)] } = true := by
      have h4 := (holds_andW hc).1
      rw [hn] at h4
      exact h4
    have h5 := condW_of h4 (w_not (w_lt w_lit (w_len_list (w_arg rfl))))
    rw [List.length_map] at h5
    refine Nat.le_of_not_lt fun q => ?_
    have q' : (n : Int) < ((ns.length : Nat) : Int) := by omega
    first
      | (rw [decide_eq_true q'] at h5; exact absurd h5 (by decide))
      | (simp at h5; omega)
  cases hwl with
  | cons w1 w2 =>
    cases w2
    cases w1 with
    | list ho hall => exact ⟨_, _, ns, rfl, rfl, ho, ints_of_wellAll ns _ hall, hlen⟩
theorem post_true (l : OpenLaw) (args : List WData) : l.row.toRowW.claim.post args (.bool true) args = true :=
  postW_of (r := l.row.toRowW) (X := (true == true))
    (show WShape.has [] (.bool true) .bool = true by first | rfl | decide | simp [WShape.has, WShape.arms, WShape.armsAll])
    (show (WTm.eq .res (.lit (.bool true))).value [] { args := args, res := some (.bool true), after := args } = some (.bool (true == true)) from w_eq_bool (w_res rfl) w_lit) rfl
theorem attach_call {l : OpenLaw} {n : Nat} {q : Program} {loose : List Str} {XP : (Str → Option Value) → Heap → Prop} {YP : World → Heap → Prop} {d : DefRec}
    (hn : l.most = some n) (hdf : d.params.defaults = [])
    (call : ∀ (w : World) (s₀ s₁ : Shared) (mg mb : Str → Option Value) (fa : Addr) (o : Obj) (pm cd doc : Value) (a : Addr) (vs : List Value) (ns : List Int),
      Ground q loose [] XP w s₀ mg mb s₁.heap → YP w s₁.heap →
      s₁.heap.get? fa = some o → o.data = .func (docDef d.name d.params d.body d.scope pm cd doc) → s₁.heap.CodeRec cd d.name → mg d.name = some (.ref fa) →
      s₁.heap.get? a = some { cls := .type "list", data := .seq vs.toArray } → IntsAre vs ns → ns.length ≤ n → s₁.gens = #[] →
      codeAny (model l.prog w) callerA (.call (.ref fa) ⟨[.ref a], []⟩) (fun r s' => r = .ok (.ret (.bool true)) ∧ OldK s₁.heap s'.heap ∧ s'.os = s₁.os ∧ AllBare s'.gens) s₁) :
    WalkO q loose XP YP l.row.toRowW d [] (fun f vs => PySem.call f vs) := by
  intro w s₀ s₁ mg mb G Y fa o pm cd doc dV kV ho hd hcd hD hmg hg args vals as hpre hlay hrd hwl hlo
  obtain rfl : dV = .none := Dflts.none hD hdf
  obtain rfl : kV = .none := Dflts.noKw hD
  obtain ⟨a, vs, ns, rfl, rfl, hobj, hints, hlen⟩ := script_of hn hpre hwl
  refine enter_call (codeAny_mono (call w s₀ s₁ mg mb fa o pm cd doc a vs ns G Y ho (fd_plain hd) hcd hmg hobj hints hlen hg) fun r s' hq => ?_)
  obtain ⟨rfl, h2, h3, h4⟩ := hq
  exact ⟨.inl ⟨.bool true, .bool true, [], rfl, fun _ => rfl, .bool true, post_true l _, fun _ => ⟨List.Pairwise.nil, fun _ hm => (nomatch hm)⟩⟩, h2, h3, h4⟩
section
variable {prog : Program} {w : World} {A : Around} {E : Value → Shared → Prop} {s : Shared} {K : Frag}
end
end Att
namespace L2
open PySem PySem.Spec PyProof.Rows
theorem vals_ints : ∀ {vs : List Value} {ns : List Int}, IntsAre vs ns → Vals (ns.map V.int) vs
  | _, _, .nil => .nil
  | _, _, .cons n t h => .cons ⟨t, rfl⟩ (vals_ints h)
def Only (H : Hp) : Prop := ∀ b, H b = none ∨ ∃ o xs, H b = some (.frz o (.lst xs))
theorem law_call {P : Program} {w : World} {K : PySem.W.Frag} {mg mb : Str → Option Value} {CX : CXT} {k : Nat} {fa a : Addr} {fd : FuncData} {x : Str} {sp : Sp} {s₁ : Shared} {vs : List Value} {ns : List Int}
    (KX : K.In s₁.heap) (hns : s₁.heap.Ns mainGlobals mg) (hb : s₁.heap.Ns builtinsNs mb) (hbb : ∀ x : Str, x ≠ "__name__" → mb x = bootBuiltins x) (hlim : s₁.heap.NoLimit) (hg : s₁.gens = #[])
    (ha : s₁.heap.get? a = some { cls := .type "list", data := .seq vs.toArray }) (hi : IntsAre vs ns) (hl : ns.length ≤ sizeLine) (hr : Room k callerA)
    (F : ∀ base : Heap, K.In base → base.Ns mainGlobals mg → FnOk P w K mg base CX k fa fd [x] sp) (hbind : ∀ (s : Shared) (u : Value), BindsTo s fd ⟨[u], []⟩ [(x, u)])
    (hsp : ∀ H : Hp, Only H → SqL K H a (ns.map V.int) → sp [.ref a] H (fun v _ => v = .bl true) fun _ _ _ => False)
    (hCX : ∀ H e s', CX [] H s₁ (fun _ _ _ => False) e s' → False) :
    codeAny (model P w) callerA (.call (.ref fa) ⟨[.ref a], []⟩) (fun r s' => r = .ok (.ret (.bool true)) ∧ OldK s₁.heap s'.heap ∧ s'.os = s₁.os ∧ AllBare s'.gens) s₁ := by
  have rv := vals_ints hi
  have lenV := hi.length
  -- from an abstract heap in which nothing but the script may be tracked
  have core : ∀ H : Hp, Only H → SqL K H a (ns.map V.int) → HOk P w H s₁.heap → (∀ b, H b ≠ none → b = a) → (H a ≠ none → K.lookup a = none) →
      codeAny (model P w) callerA (.call (.ref fa) ⟨[.ref a], []⟩) (fun r s' => r = .ok (.ret (.bool true)) ∧ OldK s₁.heap s'.heap ∧ s'.os = s₁.os ∧ AllBare s'.gens) s₁ := by
    intro H hO hS hok hA hK
    have base_of : ∀ {b : Addr} {o : Obj}, s₁.heap.get? b = some o → H b = none → (hidT s₁.heap H).get? b = some o := fun e n => hidT_get e n
    have noA : ∀ {b : Addr} {o : Obj} {es : Array DictEntry} {ep : Nat}, s₁.heap.get? b = some o → o.data = .dict es ep → H b = none := fun {b o es ep} e d => by
      cases q : H b with
      | none => rfl
      | some u =>
        have e' : b = a := hA b (by rw [q]; simp)
        subst e'
        rw [ha] at e; cases e
        have d' : Data.seq vs.toArray _ = Data.dict es ep := d
        cases d'
    have nsK : ∀ {b : Addr} {m : Str → Option Value}, s₁.heap.Ns b m → (hidT s₁.heap H).Ns b m := fun {b m} ⟨o, es, ep, e, d, r⟩ => ⟨o, es, ep, base_of e (noA e d), d, r⟩
    have hKb : K.In (hidT s₁.heap H) := fun b o e => base_of (KX b o e) (by
      cases q : H b with
      | none => rfl
      | some u =>
        have e' : b = a := hA b (by rw [q]; simp)
        subst e'
        rw [hK (by rw [q]; simp)] at e; cases e)
    have hM : Mod K mg (hidT s₁.heap H) := ⟨hKb, nsK hns, ⟨mb, nsK hb, hbb⟩, let ⟨mc, h1, h2⟩ := hlim; ⟨mc, nsK h1, h2⟩⟩
    have e0 : Env0 P w K mg (hidT s₁.heap H) callerA [] s₁ H := ⟨rfl, hM, fun b o e => of_hidT e, Nat.le_of_eq (hidT_size _ _), trivial, fun b hb => absurd (show b ∈ ([] : List Addr) from hb) (by simp), hok, .of_eq hg⟩
    refine codeAny_mono ((F _ hKb (nsK hns)).run callerA [] s₁ H ⟨[.ref a], []⟩ [.ref a] [.ref a] _ _ hr e0 (hbind s₁ (.ref a)) (.cons rfl .nil) (hsp H hO hS)) fun r s' h => ?_
    cases r with
    | error e => exact (hCX H e s' h).elim
    | ok fl =>
      cases fl with
      | next => exact False.elim h
      | brk => exact False.elim h
      | cont => exact False.elim h
      | ret u =>
        obtain ⟨v, H', os, bare, un, hok', r', q⟩ := h
        have q' : v = .bl true := q
        subst q'
        obtain rfl : u = Value.bool true := r'
        refine ⟨rfl, OldK.of_keep fun b o e => ?_, os, bare⟩
        cases q : H b with
        | none => exact un.keep b o e q (by intro z; exact absurd (show b ∈ ([] : List Addr) from z) (by simp)) (by simp)
        | some u =>
          rcases hO b with z | ⟨ob, xs, z⟩
          · rw [q] at z; cases z
          · have z2 := un.frzs b ob _ z
            obtain ⟨e1, _⟩ := hok b _ z
            obtain ⟨e2, _⟩ := hok' b _ z2
            rw [e] at e1; cases e1
            exact e2
  cases hk : K.lookup a with
  | some o =>
    -- the script is one of the module's own objects
    have e := KX a o hk
    rw [ha] at e
    cases e
    refine core (fun _ => none) (fun _ => .inl rfl) (.inr ⟨_, vs.toArray, _, hk, rfl, rfl, rfl, by rw [List.size_toArray, lenV]; exact hl, by simpa using rv⟩) (fun b u z => by have z' : (none : Option HO) = some u := z; cases z') (fun b z => absurd rfl z) fun z => absurd rfl z
  | none =>
    refine core (fun b => if b = a then some (.frz { cls := .type "list", data := .seq vs.toArray } (.lst (ns.map V.int))) else none) (fun b => ?_) (.inl (.inr ⟨{ cls := .type "list", data := .seq vs.toArray }, if_pos rfl⟩)) (fun b u z => ?_) (fun b z => ?_) fun _ => hk
    · by_cases hb : b = a
      · exact .inr ⟨_, _, if_pos hb⟩
      · exact .inl (if_neg hb)
    · by_cases hb : b = a
      · have z' := (if_pos hb).symm.trans z
        cases z'
        subst hb
        exact ⟨ha, by rw [List.length_map]; exact hl, vs, _, rv, ha⟩
      · have z' := (if_neg hb).symm.trans z
        cases z'
    · by_cases hb : b = a
      · exact hb
      · exact absurd (if_neg hb) z
end L2
namespace L2
open PySem PySem.Spec PyProof.Rows
theorem walk_of {l : PySem.W.OpenLaw} {n k : Nat} {q : Program} {loose : List Str} {XP : (Str → Option Value) → Heap → Prop} {YP : World → Heap → Prop} {d : DefRec} {K : Params → PySem.W.Frag} {CX : World → CXT} {sp : World → Sp} {x : Str}
    (hn : l.most = some n) (hn2 : n ≤ sizeLine) (hdf : d.params.defaults = []) (hr : Room k callerA)
    (hY : ∀ (w : World) (h : Heap), YP w h → (K w.params).In h)
    (F : ∀ (w : World) (mg : Str → Option Value) (fa : Addr) (h : Heap), (K w.params).In h → h.Ns mainGlobals mg → mg d.name = some (.ref fa) →
      ∃ fd : FuncData, (∀ (s : Shared) (u : Value), BindsTo s fd ⟨[u], []⟩ [(x, u)]) ∧
        ∀ base : Heap, (K w.params).In base → base.Ns mainGlobals mg → FnOk l.prog w (K w.params) mg base (CX w) k fa fd [x] (sp w))
    (hsp : ∀ (w : World) (H : Hp) (a : Addr) (ns : List Int), ns.length ≤ n → Only H → SqL (K w.params) H a (ns.map V.int) → sp w [.ref a] H (fun v _ => v = .bl true) fun _ _ _ => False)
    (hCX : ∀ (w : World) (H : Hp) (s : Shared) (e : Value) (s' : Shared), CX w [] H s (fun _ _ _ => False) e s' → False) :
    PySem.W.WalkO q loose XP YP l.row.toRowW d [] (fun f vs => PySem.call f vs) := by
  refine Att.attach_call hn hdf fun w s₀ s₁ mg mb fa o pm cd doc a vs ns G Y ho hd hcd hmg hobj hints hlen hg => ?_
  have KX := hY w _ Y
  obtain ⟨fd, hb, hF⟩ := F w mg fa _ KX G.T.g hmg
  exact law_call KX G.T.g G.T.b G.T.builtins G.T.nolimit hg hobj hints (Nat.le_trans hlen hn2) hr hF hb (fun H hO hS => hsp w H a ns hlen hO hS) fun H e s' => hCX w H s₁ e s'
end L2
namespace L2
open PySem PySem.Spec PyProof.Rows
def defArgs (s : Stmt) : Arguments := match s with
  | .FunctionDef _ a _ _ _ _ _ _ _ _ => a
  | _ => { posonlyargs := [], args := [], vararg := none, kwonlyargs := [], kw_defaults := [], kwarg := none, defaults := [] }
def defBody (s : Stmt) : List Stmt := match s with
  | .FunctionDef _ _ b _ _ _ _ _ _ _ => b
  | _ => []
def defScope (s : Stmt) : Scope := match s with
  | .FunctionDef _ _ _ _ _ _ sc _ _ _ => sc
  | _ => { kind := .function, names := [], isGenerator := false, isCoroutine := false }
abbrev CX0 : CXT := fun _ _ _ _ _ _ => False
abbrev E0 : XK := fun _ _ _ => False
structure Fun (K : PySem.W.Frag) (x qual : Str) (st : Stmt) (f : Addr) (fd : FuncData) : Prop where
  ex : ∃ (oc : Value) (od : Option Addr) (kV doc pm : Value) (an : Option Addr) (cdv ct : Value) (osl : Array (Option Value)),
    fd = PySem.W.fnOf x qual (defArgs st) (defBody st) (defScope st) .none kV doc pm an cdv ct ∧ K.lookup f = some ⟨oc, od, .func fd, osl⟩ ∧ PySem.W.codeIn K cdv qual = true
  kp : PySem.W.keepIn K (.ref f) = true
section
variable {P : Program} {w : World} {K : PySem.W.Frag} {mg : Str → Option Value} {base : Heap}
theorem Fun.ok {x qual : Str} {st : Stmt} {f : Addr} {fd : FuncData} {N ps : List Str} {k : Nat} {sp : Sp} (F : Fun K x qual st f fd) (S : FnScope N ps (defScope st)) (len : ∀ vs H Q E, sp vs H Q E → vs.length = ps.length)
    (hbody : ∀ (cdv : Value) (A : Around) (outer : List Env) (s : Shared) (H : Hp) (vs : List V) (Q : VK) (E : XK), Room k (A.deeper (envOfC qual (defScope st) s.heap.objs.size f cdv)) → sp vs H Q E →
      ∃ t, PSs (cxOf CX0 P w K mg base N qual (defScope st) f cdv A outer s H E).nox (defBody st) t ∧ t { nx := fun _ H' => Q .non H', rt := Q } (start N vs) H) : FnOk P w K mg base CX0 (k + 1) f fd ps sp := by
  obtain ⟨oc, od, kV, doc, pm, an, cdv, ct, osl, rfl, lk, hcd⟩ := F.ex
  refine fn_of lk hcd S len fun A outer s H vs Q E hr hsp => ?_
  obtain ⟨t, h, q⟩ := hbody cdv A outer s H vs Q E hr hsp
  exact ⟨t, h.nox, q⟩
theorem Fun.binds {x qual : Str} {st : Stmt} {f : Addr} {fd : FuncData} {ps : List Str} (F : Fun K x qual st f fd)
    (h : ∀ (kV doc pm : Value) (an : Option Addr) (cdv ct : Value) (us : List Value), us.length = ps.length → bindArgs (PySem.W.fnOf x qual (defArgs st) (defBody st) (defScope st) .none kV doc pm an cdv ct) ⟨us, []⟩ = pure (ps.zip us)) : Binds K fd ps [] := by
  obtain ⟨oc, od, kV, doc, pm, an, cdv, ct, osl, rfl, lk, hcd⟩ := F.ex
  exact .all (h kV doc pm an cdv ct)
theorem fun_mk {x qual : Str} {st : Stmt} {f : Addr} {oc : Value} {od an : Option Addr} {osl : Array (Option Value)} {kV doc pm cdv ct : Value} (l : K.lookup f = some ⟨oc, od, .func (PySem.W.fnOf x qual (defArgs st) (defBody st) (defScope st) .none kV doc pm an cdv ct), osl⟩)
    (c : PySem.W.codeIn K cdv qual = true) (k : PySem.W.keepIn K (.ref f) = true) : Fun K x qual st f (PySem.W.fnOf x qual (defArgs st) (defBody st) (defScope st) .none kV doc pm an cdv ct) := ⟨⟨oc, od, kV, doc, pm, an, cdv, ct, osl, rfl, l, c⟩, k⟩
end
section
variable {X : Cx}
theorem pv (i : Nat) {x : Str} {pos : Pos} (hN : X.N[i]? = some x := by rfl) (hv : Vis X.env.scope x := by first | exact Or.inl rfl | exact Or.inr (Or.inl rfl) | exact Or.inr (Or.inr rfl)) (hd : (x == ("__debug__" : Str)) = false := by decide)
    (hcd : (x == ("__classdict__" : Str)) = false := by decide) : PE X (.Name x pos) (tVar i) := pe_var hN hv hd hcd
end
theorem iteF {A B : Prop} (h : B) : if false = true then A else B := by
  rw [if_neg Bool.false_ne_true]
  exact h
theorem iteT {A B : Prop} (h : A) : if true = true then A else B := by
  rw [if_pos rfl]
  exact h
theorem ite2 {c A B : Prop} [Decidable c] (h1 : c → A) (h2 : ¬ c → B) : if c then A else B := by
  by_cases h : c
  · rw [if_pos h]
    exact h1 h
  · rw [if_neg h]
    exact h2 h
theorem iteNS {c A B : Prop} [Decidable c] (hc : c) (h : B) : if (!decide c) = true then A else B := by
  rw [decide_eq_true hc]
  exact iteF h
def Same (H H' : Hp) : Prop := ∀ b o, H b = some o → H' b = some o
theorem Same.refl (H : Hp) : Same H H := fun _ _ h => h
theorem Same.trans {H H1 H2 : Hp} (a : Same H H1) (b : Same H1 H2) : Same H H2 := fun c o h => b c o (a c o h)
theorem Same.free {H H' : Hp} (e : Same H H') {l : Addr} (h : H' l = Option.none) : H l = Option.none := by
  cases q : H l with
  | none => rfl
  | some o =>
    rw [e l o q] at h
    cases h
theorem Same.seq {K : PySem.W.Frag} {H H' : Hp} {a : Addr} {xs : List V} (e : Same H H') (h : SqL K H a xs) : SqL K H' a xs := by
  rcases h with (h | ⟨o, h⟩) | h
  · exact .inl (.inl (e _ _ h))
  · exact .inl (.inr ⟨o, e _ _ h⟩)
  · exact .inr h
section
variable {κ : Type} [DecidableEq κ]
end
end L2
namespace HT
open PySem PyProof.Rows
def lexLe : List Int → List Int → Bool
  | [], [] => true
  | [], _ :: _ => true
  | _ :: _, [] => false
  | x :: xs, y :: ys => if x = y then lexLe xs ys else decide (x ≤ y)
theorem lexLe_cons (x y : Int) (xs ys : List Int) : lexLe (x :: xs) (y :: ys) = if x = y then lexLe xs ys else decide (x ≤ y) := rfl
theorem lexLe_nil_nil : lexLe [] [] = true := rfl
theorem lexLe_nil_cons (y : Int) (ys : List Int) : lexLe [] (y :: ys) = true := rfl
theorem lexLe_cons_nil (x : Int) (xs : List Int) : lexLe (x :: xs) [] = false := rfl
theorem rcLe_int (A : Around) (s : Shared) (a : Int) (t : Tok) (c : Int) (u : Tok) (prog : Program) (w : World) (E : Value → Shared → Prop) (Q : Value → Shared → Prop) (h : Q (.bool (decide (a ≤ c))) s) :
    wpAny (model prog w) A (richCompare .LtE (.int a t) (.int c u)) Q E s :=
  (PyProof.Rows.le_int h : wpAny (model prog w) A (compareOp .LtE (.int a t) (.int c u)) Q E s)
section
open PySem.SeqAt
open PySem.AutoSeq1 (wpAny_loadPart')
open PySem.MeetsSeq PySem.MeetsSeq2 PySem.MeetsSeq3
theorem tuple_le_ints (l b : Addr) (items items2 : Array Value) (n n2 : Nat) (dd dd2 : Option Addr) (sl sl2 : Array (Option Value)) (ns ms : List Int) (hi : IntsAre items.toList ns) (hj : IntsAre items2.toList ms) :
    Meets (Builtin.«tuple.__le__» ⟨[.ref l, .ref b], []⟩)
      (fun _ R s => s.heap.get? l = some { cls := .type "tuple", dict := dd, data := .seq items n, slots := sl } ∧ s.heap.get? b = some { cls := .type "tuple", dict := dd2, data := .seq items2 n2, slots := sl2 } ∧
        R (.ok (.ret (.bool (lexLe ns ms)))) s) :=
  .of_wp fun prog w A R s h => by
    obtain ⟨hp, g, d, tk, os⟩ := s; obtain ⟨hl, hb, h⟩ := h
    have f2 := AutoSeq1.sub_tuple_tuple
    have z1 : items.size = ns.length := by rw [← hi.length]; simp
    have z2 : items2.size = ms.length := by rw [← hj.length]; simp
    wp_walk using wpAny_loadPart' hl, wpAny_loadPart' hb, wpAny_forIn_list _ (fun rest b s' => b.1 = none ∧ s' = ⟨hp, g, d, tk, os⟩ ∧ ∃ (vs ws : List Value) (ns' ms' : List Int), rest = vs.zip ws ∧
      IntsAre vs ns' ∧ IntsAre ws ms' ∧ ns'.length + items2.size = ms'.length + items.size ∧ R (.ok (.ret (.bool (lexLe ns' ms')))) ⟨hp, g, d, tk, os⟩) _
    case turn =>
      rintro ⟨y, x⟩ rest b s' ⟨hb', rfl, vs, ws, ns', ms', hz, hvi, hwi, hlen, hR⟩
      cases hvi with
      | nil => rw [List.zip_nil_left] at hz; cases hz
      | cons a t hvi' =>
        cases hwi with
        | nil => rw [List.zip_nil_right] at hz; cases hz
        | cons c u hwi' =>
          rw [List.zip_cons_cons] at hz
          injection hz with hyx hrest
          injection hyx with hy hx
          subst hy hx
          rw [lexLe_cons] at hR
          simp only [List.length_cons] at hlen
          obtain ⟨e, he, hiff⟩ := eqAt_int A.in1 ⟨hp, g, d, tk, os⟩ a t c u
          refine wpAny_bind (he prog w _ _ ?_)
          cases e with
          | true =>
            rw [if_pos (hiff.mp rfl)] at hR
            wp_walk
            exact ⟨rfl, rfl, _, _, _, _, hrest, hvi', hwi', by omega, hR⟩
          | false =>
            rw [if_neg (fun q => absurd (hiff.mpr q) Bool.false_ne_true)] at hR
            have hri := rcLe_int A.in1 ⟨hp, g, d, tk, os⟩ a t c u prog w
            wp_walk using hri
            exact ⟨_, rfl, by simpa using hR⟩
    case fin =>
      rintro ⟨b1, b2⟩ s' ⟨hb', rfl, vs, ws, ns', ms', hz, hvi, hwi, hlen, hR⟩
      simp only at hb'
      subst hb'
      have hv : lexLe ns' ms' = decide (items.size ≤ items2.size) := by
        cases hvi with
        | nil =>
          cases hwi with
          | nil =>
            simp only [List.length_nil] at hlen
            rw [lexLe_nil_nil]
            exact (decide_eq_true (by omega)).symm
          | cons c u hw =>
            simp only [List.length_nil, List.length_cons] at hlen
            rw [lexLe_nil_cons]
            exact (decide_eq_true (by omega)).symm
        | cons a t hv =>
          cases hwi with
          | nil =>
            simp only [List.length_nil, List.length_cons] at hlen
            rw [lexLe_cons_nil]
            exact (decide_eq_false (by omega)).symm
          | cons c u hw =>
            rw [List.zip_cons_cons] at hz
            cases hz
      rw [hv] at hR
      wp_walk
      exact ⟨_, rfl, by simpa [Builtin.Tuple.tupleCompareSizes] using hR⟩
    case h =>
      exact ⟨rfl, rfl, items.toList, items2.toList, ns, ms, rfl, hi, hj, by omega, h⟩
end
section
variable {prog : Program} {w : World} {A : Around} {E : Value → Shared → Prop} {s : Shared}
theorem le_tupInts {l b : Addr} {items items2 : Array Value} {ns ms : List Int} {Q : Value → Shared → Prop} (hl : IsTup s.heap l items) (hb : IsTup s.heap b items2) (hi : IntsAre items.toList ns) (hj : IntsAre items2.toList ms)
    (hu : A.units < cLine) (h : Q (.bool (lexLe ns ms)) s) : wpAny (model prog w) A (compareOp .LtE (.ref l) (.ref b)) Q E s := by
  obtain ⟨⟨cls, dd, data, sl⟩, ho, hc, n, hd⟩ := id hl
  obtain ⟨⟨cls2, dd2, data2, sl2⟩, ho2, hc2, n2, hd2⟩ := id hb
  simp only at hc hd hc2 hd2
  subst hc hd hc2 hd2
  exact richCompare_meets_room (op := .LtE) ⟨_, ho, rfl⟩ ⟨_, ho2, rfl⟩ PySem.F.slot_tuple_le PySem.F.entry_tuple_le (PySem.F.args_tuple_le_2 _ _) (tuple_le_ints l b items items2 n n2 dd dd2 sl sl2 ns ms hi hj)
    ⟨ho, ho2, show Value.bool (lexLe ns ms) ≠ Value.notImplemented ∧ Q (.bool (lexLe ns ms)) s from ⟨(fun x => nomatch x), h⟩⟩ hu
end
end HT
namespace L2
open PySem PySem.Spec PyProof.Rows
section
variable {X : Cx}
def rLeT (K : PySem.W.Frag) : R2 := fun x y H Q => ∃ a b ns ms, x = .ref a ∧ y = .ref b ∧ SqT K H a (ns.map V.int) ∧ SqT K H b (ms.map V.int) ∧ Q (.bl (HT.lexLe ns ms)) H
theorem op_leT (hu : X.A.units < cLine) : OpR X (compareOp .LtE) (rLeT X.K) := by
  intro pins s σ H x y v u Q I rx ry h
  obtain ⟨a, b, ns, ms, rfl, rfl, ha, hb, q⟩ := h
  cases rx
  cases ry
  obtain ⟨its, r1, p1, _⟩ := I.tuple ha
  obtain ⟨its2, r2, p2, _⟩ := I.tuple hb
  have i1 : IntsAre its.toArray.toList ns := intsAre_of r1
  have i2 : IntsAre its2.toArray.toList ms := intsAre_of r2
  exact HT.le_tupInts p1 p2 i1 i2 hu ⟨.bl (HT.lexLe ns ms), H, I, rfl, q⟩
end
end L2
set_option Elab.async false
set_option linter.all false
set_option maxRecDepth 100000
set_option maxHeartbeats 4000000
namespace L2
open PySem
open Sem (wp)
def F2 (e : Addr) (c : Value) (h : Heap) : Prop := ∃ o vs, h.get? e = some o ∧ o.data = .fields vs ∧ vs[2]? = some c
structure KF (e : Addr) (c : Value) {α : Type} (t : Sem α) : Prop where
  out : ∀ (M : Model) (Γ : Ctx) (P : α → Pos → Shared → Prop) (Ee : Value → Pos → Shared → Prop) (p : Pos) (s : Shared), F2 e c s.heap → wp M Γ t P Ee p s → wp M Γ t (fun a p' s' => P a p' s' ∧ F2 e c s'.heap) Ee p s
theorem F2.upd {e : Addr} {c : Value} {h : Heap} (x : F2 e c h) (a : Addr) (f : Obj → Obj) (hf : ∀ o vs, o.data = .fields vs → vs[2]? = some c → ∃ vs', (f o).data = .fields vs' ∧ vs'[2]? = some c) : F2 e c (h.update a f) := by
  obtain ⟨o, vs, ho, hd, h2⟩ := x
  by_cases q : e = a
  · subst q
    obtain ⟨vs', d', h2'⟩ := hf o vs hd h2
    exact ⟨f o, vs', Heap.get?_update_self f ho (Obj.isFreed_of_fields d'), d', h2'⟩
  · exact ⟨o, vs, (Heap.get?_update_ne _ _ _ _ q).trans ho, hd, h2⟩
namespace KF
variable {e : Addr} {c : Value} {α β : Type}
theorem pure (a : α) : KF e c (Pure.pure a : Sem α) := ⟨fun _ _ _ _ _ _ hF h => ⟨h, hF⟩⟩
theorem unsupported (w : String) : KF e c (PySem.unsupported w : Sem α) := ⟨fun _ _ _ _ _ _ _ h => h⟩
theorem bind {m : Sem α} {f : α → Sem β} (hm : KF e c m) (hf : ∀ a, KF e c (f a)) : KF e c (m >>= f) := ⟨fun M Γ P Ee p s hF h => by
  rw [Sem.wp_bind'] at h ⊢
  refine Sem.wp_mono M Γ m (fun a p' s' h' => ?_) (fun _ _ _ x => x) p s (hm.out M Γ _ Ee p s hF h)
  exact (hf a).out M Γ P Ee p' s' h'.2 h'.1⟩
theorem ite {q : Prop} [Decidable q] {t u : Sem α} (ht : KF e c t) (hu : KF e c u) : KF e c (if q then t else u) := by split <;> assumption
theorem load (a : Addr) : KF e c (PySem.load a) := ⟨fun _ _ _ _ _ _ hF h => by
  obtain ⟨o, ho, h⟩ := h
  exact ⟨o, ho, h, hF⟩⟩
theorem stack : KF e c PySem.stack := ⟨fun M Γ P Ee p s hF h => by
  unfold PySem.stack at h ⊢
  rw [Sem.wp_stack] at h ⊢
  exact ⟨h, hF⟩⟩
theorem field (v : Value) (i : Nat) : KF e c (PySem.field v i) := ⟨fun _ Γ P Ee p s hF h => by
  rw [wp_field_iff] at h ⊢
  obtain ⟨a, o, vs, x, e1, e2, e3, e4, h⟩ := h
  exact ⟨a, o, vs, x, e1, e2, e3, e4, h, hF⟩⟩
theorem setField (v : Value) (i : Nat) (x : Value) (hi : i ≠ 2) : KF e c (PySem.setField v i x) := ⟨fun _ Γ P Ee p s hF h => by
  rw [wp_setField_iff] at h ⊢
  obtain ⟨a, o, vs, e1, e2, e3, e4, h⟩ := h
  refine ⟨a, o, vs, e1, e2, e3, e4, h, hF.upd a _ fun o vs hd h2 => ⟨_, Obj.data_mapFields hd _, ?_⟩⟩
  rw [Array.getElem?_setIfInBounds_ne hi]
  exact h2⟩
theorem update (a : Addr) (f : Obj → Obj) (hf : ∀ o, (f o).data = o.data) : KF e c (PySem.update a f) := ⟨fun _ _ _ _ _ _ hF h => by
  obtain ⟨h1, h2⟩ := h
  exact ⟨h1, h2, hF.upd a f fun o vs hd h2 => ⟨vs, (hf o).trans hd, h2⟩⟩⟩
theorem alloc (o : Obj) : KF e c (PySem.alloc o) := ⟨fun _ _ _ _ _ _ hF h => by
  obtain ⟨o2, vs, ho, hd, h2⟩ := hF
  exact ⟨h, o2, vs, Heap.get?_push_of_some _ ho, hd, h2⟩⟩
end KF
section
variable {e : Addr} {c : Value}
theorem kf_behind (env : Env) (outer : List Env) : KF e c (behindIsImport env outer) := by
  unfold behindIsImport
  (repeat' with_reducible first | assumption | exact KF.pure _ | exact KF.unsupported _ | exact KF.field _ _ | exact KF.setField _ _ _ (by decide) | exact KF.load _ | exact KF.update _ _ (fun _ => rfl) | exact KF.stack | exact KF.alloc _ | apply KF.ite | apply KF.bind | intro _ | split)
theorem kf_under : KF e c underTheClaimsCaller := by
  unfold underTheClaimsCaller
  (repeat' with_reducible first | assumption | exact KF.pure _ | exact KF.unsupported _ | exact KF.field _ _ | exact KF.setField _ _ _ (by decide) | exact KF.load _ | exact KF.update _ _ (fun _ => rfl) | exact KF.stack | exact KF.alloc _ | apply KF.ite | apply KF.bind | intro _ | split)
theorem kf_keptBack (env : Env) (i : Bool) (l : List Env) : KF e c (keptBack env i l) := by
  have := kf_under (e := e) (c := c)
  cases l <;> unfold keptBack <;> (repeat' with_reducible first | assumption | exact KF.pure _ | exact KF.unsupported _ | exact KF.field _ _ | exact KF.setField _ _ _ (by decide) | exact KF.load _ | exact KF.update _ _ (fun _ => rfl) | exact KF.stack | exact KF.alloc _ | apply KF.ite | apply KF.bind | intro _ | split)
theorem kf_ready : ∀ l : List Env, KF e c (readyFrames l)
  | [] => KF.pure _
  | env :: outer => by
    have ih := kf_ready outer
    have h1 := kf_behind (e := e) (c := c) env outer
    have h2 := fun i => kf_keptBack (e := e) (c := c) env i outer
    unfold readyFrames
    (repeat' with_reducible first | assumption | exact KF.pure _ | exact KF.unsupported _ | exact KF.field _ _ | exact KF.setField _ _ _ (by decide) | exact KF.load _ | exact KF.update _ _ (fun _ => rfl) | exact KF.stack | exact KF.alloc _ | apply KF.ite | apply KF.bind | intro _ | split)
    all_goals first | exact h2 _ | skip
theorem kf_frameObject (l : List Env) : KF e c (frameObject l) := by
  cases l with
  | nil => exact KF.pure _
  | cons env outer =>
    have := kf_ready (e := e) (c := c) (env :: outer)
    unfold frameObject
    (repeat' with_reducible first | assumption | exact KF.pure _ | exact KF.unsupported _ | exact KF.field _ _ | exact KF.setField _ _ _ (by decide) | exact KF.load _ | exact KF.update _ _ (fun _ => rfl) | exact KF.stack | exact KF.alloc _ | apply KF.ite | apply KF.bind | intro _ | split)
theorem kf_frameEnvs : KF e c frameEnvs := by
  unfold frameEnvs
  (repeat' with_reducible first | assumption | exact KF.pure _ | exact KF.unsupported _ | exact KF.field _ _ | exact KF.setField _ _ _ (by decide) | exact KF.load _ | exact KF.update _ _ (fun _ => rfl) | exact KF.stack | exact KF.alloc _ | apply KF.ite | apply KF.bind | intro _ | split)
theorem kf_frameOf (env : Env) : KF e c (frameOf env) := by
  have h1 := kf_frameEnvs (e := e) (c := c)
  have h2 := fun l => kf_frameObject (e := e) (c := c) l
  unfold frameOf
  (repeat' with_reducible first | assumption | exact KF.pure _ | exact KF.unsupported _ | exact KF.field _ _ | exact KF.setField _ _ _ (by decide) | exact KF.load _ | exact KF.update _ _ (fun _ => rfl) | exact KF.stack | exact KF.alloc _ | apply KF.ite | apply KF.bind | intro _ | split)
  all_goals first | exact h2 _ | skip
theorem kf_place (f : Addr) (b : Bool) : KF e c (entryPlaceOf f b) := by
  unfold entryPlaceOf
  (repeat' with_reducible first | assumption | exact KF.pure _ | exact KF.unsupported _ | exact KF.field _ _ | exact KF.setField _ _ _ (by decide) | exact KF.load _ | exact KF.update _ _ (fun _ => rfl) | exact KF.stack | exact KF.alloc _ | apply KF.ite | apply KF.bind | intro _ | split)
theorem kf_newFields (n : String) (vs : List Value) : KF e c (newFields n vs) := by
  unfold newFields newObj newObjAsIs
  (repeat' with_reducible first | assumption | exact KF.pure _ | exact KF.unsupported _ | exact KF.field _ _ | exact KF.setField _ _ _ (by decide) | exact KF.load _ | exact KF.update _ _ (fun _ => rfl) | exact KF.stack | exact KF.alloc _ | apply KF.ite | apply KF.bind | intro _ | split)
theorem kf_newEntry (a b d f g : Value) (l : List Value) : KF e c (EntryCells.newEntry a b d f g l) := by
  unfold EntryCells.newEntry
  exact kf_newFields _ _
theorem kf_noteFrame (v : Value) (env : Env) : KF e c (noteFrame v env) := by
  have h1 := kf_frameOf (e := e) (c := c) env
  have h2 := fun f b => kf_place (e := e) (c := c) f b
  have h3 := fun x1 x2 x3 x4 x5 l => kf_newEntry (e := e) (c := c) x1 x2 x3 x4 x5 l
  unfold noteFrame
  (repeat' with_reducible first | assumption | exact KF.pure _ | exact KF.unsupported _ | exact KF.field _ _ | exact KF.setField _ _ _ (by decide) | exact KF.load _ | exact KF.update _ _ (fun _ => rfl) | exact KF.stack | exact KF.alloc _ | apply KF.ite | apply KF.bind | intro _ | split)
  all_goals first | exact h2 _ _ | exact h3 _ _ _ _ _ _ | skip
theorem kf_setFlight (v : Value) (f : Option Addr) : KF e c (setFlight v f) := by
  unfold setFlight
  (repeat' with_reducible first | assumption | exact KF.pure _ | exact KF.unsupported _ | exact KF.field _ _ | exact KF.setField _ _ _ (by decide) | exact KF.load _ | exact KF.update _ _ (fun _ => rfl) | exact KF.stack | exact KF.alloc _ | apply KF.ite | apply KF.bind | intro _ | split)
theorem kf_leaving (v : Value) (env : Env) : KF e c (leaving env v) := by
  unfold leaving
  exact KF.bind (kf_noteFrame v env) fun _ => kf_setFlight v none
theorem KF.any {α : Type} {t : Sem α} (k : KF e c t) {M : Model} {A : Around} {Q : α → Shared → Prop} {E : Value → Shared → Prop} {s : Shared} (hF : F2 e c s.heap) (h : wpAny M A t Q E s) : wpAny M A t (fun a s' => Q a s' ∧ F2 e c s'.heap) E s := by
  intro Γ p hΓ
  exact k.out M Γ _ _ _ s hF (h Γ p hΓ)
end
end L2
set_option Elab.async false
set_option linter.all false
set_option maxRecDepth 100000
set_option maxHeartbeats 4000000
namespace My
open PySem PySem.W PyProof.Rows
def goT (tb : String → Option Builtin) (p : Program) (w : World) (n₀ : Nat) (ann : Option Value) : Nat → SharedT → Thread → Option SharedT
  | 0, _, _ => none
  | n + 1, s, t => match through t with
    | true => some s
    | false => match stepOk n₀ ann t with
      | false => none
      | true => match stepT (denote tb) p w s t with
        | some (s', t') => goT tb p w n₀ ann n s' t'
        | none => none
def growT : List Obj → Nat → BT → BT
  | [], _, t => t
  | o :: r, n, t => growT r (n + 1) (t.ins n o)
theorem goT_of {tb : String → Option Builtin} {p : Program} {w : World} {n₀ : Nat} {ann : Option Value} : ∀ {n : Nat} {s r : SharedT} {t : Thread}, goT tb p w n₀ ann n s t = some r → topRun tb p w n₀ ann n s.abs t = some r.abs
  | 0, _, _, _, h => by cases h
  | n + 1, s, r, t, h => by
    unfold goT at h
    unfold topRun
    cases ht : through t with
    | true => rw [ht] at h; cases h; rfl
    | false =>
      rw [ht] at h
      cases hk : stepOk n₀ ann t with
      | false => rw [hk] at h; cases h
      | true =>
        rw [hk] at h
        cases hs : stepT (denote tb) p w s t with
        | none => rw [hs] at h; cases h
        | some r => obtain ⟨s₂, t₂⟩ := r; rw [hs] at h; rw [stepT_spec hs]; exact goT_of h
noncomputable def bootT (P : Params) : BT := growT (boot_heap P).objs.toList 0 .nil
theorem boot_tree (P : Params) : absHeap (bootT P) (boot_heap P).objs.size (boot_heap P).life = boot_heap P := by kernel_rfl
theorem boot_ns (P : Params) : ((boot_heap P).isNs mainGlobals && (Array.mk ([] : List GenState)).size == 0) = true := by kernel_rfl
noncomputable def lookT (p q : Program) (loose : List Str) (recs : WRecords) (as : List Addr) (N : Nat) (w : World) (os : OsState) :=
  (goT treeTable p w (boot_heap w.params).objs.size ((boot_heap w.params).nsMap mainGlobals "__annotations__") N ⟨bootT w.params, (boot_heap w.params).objs.size, (boot_heap w.params).life, Array.mk [], boot_drawn, boot_toks, os⟩ (topStub p)).map fun s =>
    ((staticsOk (importedModules p.main.body) (boot_heap w.params) s.abs.heap && namesBound p s.abs.heap && gensDone s.abs && laidKept (boot_heap w.params) s.abs.heap),
      openSeen q loose (importedModules p.main.body) (fun s => xlAt q [] s && recOk recs s) true s.abs, as.map s.abs.heap.get?)
theorem prime0 : ((fun (_ : Program → Program → List Str → WRecords → List Addr → Nat → World → OsState → Bool) => true) fun p q l r a n w o => (lookT p q l r a n w o).isSome) = true := by k_qdec
theorem left_of {p q : Program} {loose : List Str} {recs : WRecords} {as : List Addr} {K : Params → Frag} {e : ∀ P, as = (K P).map (·.1)} {N : Nat} (e1 : opening p = plainProg p.main.scope.names) (hN : Nat.ble 600 N = true) (hf : ∀ s, fenceModules? p s = some s)
    (h : ∀ w os, lookT p q loose recs as N w os = some (true, openGood q loose, (K w.params).map fun p => some p.2)) : LeftO p q loose (fun s => xlAt q [] s && recOk recs s) (kHook K as e).obs (kHook K as e).val N := fun w => by
  obtain ⟨⟨h0, gs, d, k, os⟩, e2, e3⟩ := Option.map_eq_some_iff.mp (boot_open e1 hN hf w)
  obtain ⟨rfl, rfl, rfl, rfl⟩ : h0 = boot_heap w.params ∧ gs = Array.mk [] ∧ d = boot_drawn ∧ k = boot_toks := by simpa using e3
  obtain ⟨s, r, l⟩ := Option.map_eq_some_iff.mp (h w os)
  obtain ⟨l1, l2, l3⟩ : _ ∧ _ ∧ _ := by simpa only [Prod.mk.injEq] using l
  have r' := goT_of r
  have es : (SharedT.mk (bootT w.params) (boot_heap w.params).objs.size (boot_heap w.params).life (Array.mk []) boot_drawn boot_toks os).abs = ⟨boot_heap w.params, Array.mk [], boot_drawn, boot_toks, os⟩ := by
    unfold SharedT.abs
    dsimp only
    rw [boot_tree]
  rw [es] at r'
  have t : topFrom treeTable p w N ⟨boot_heap w.params, Array.mk [], boot_drawn, boot_toks, os⟩ = some s.abs := by
    unfold topFrom
    dsimp only
    rw [boot_ns, r']
    show (match staticsOk (importedModules p.main.body) (boot_heap w.params) s.abs.heap && namesBound p s.abs.heap && gensDone s.abs && laidKept (boot_heap w.params) s.abs.heap with | true => _ | false => _) = _
    rw [l1]
  unfold openEnds
  rw [e2]
  show (topFrom treeTable p w N _).map _ = _
  rw [t]
  exact congrArg some (Prod.ext l2 l3)
end My
set_option Elab.async false
set_option linter.all false
set_option maxRecDepth 100000
set_option maxHeartbeats 4000000
namespace L2
open PySem PySem.Spec PyProof.Rows
theorem ObjOk.there {P : Program} {w : World} {H : Hp} {h : Heap} {a : Addr} {o : HO} (x : ObjOk P w H h a o) : ∃ ob, h.get? a = some ob := by
  cases o with
  | lst xs => obtain ⟨_, _, _, _, e⟩ := x; exact ⟨_, e⟩
  | tup xs => obtain ⟨_, _, _, ob, e, _⟩ := x; exact ⟨ob, e⟩
  | dK kvs => obtain ⟨_, _, _, _, ob, _, _, e, _⟩ := x; exact ⟨ob, e⟩
  | dT kvs => obtain ⟨_, _, _, _, ob, _, _, e, _⟩ := x; exact ⟨ob, e⟩
  | set S n => obtain ⟨ob, _, _, _, e, _⟩ := x; exact ⟨ob, e⟩
  | ins C dx fs => obtain ⟨_, _, _, e, _⟩ := x; exact ⟨_, e⟩
  | own y => obtain ⟨ob, e⟩ := x; exact ⟨ob, e⟩
  | xd fs => obtain ⟨_, ⟨ob, _, _, e, _⟩, _⟩ := x; exact ⟨ob, e⟩
  | rng lo hi => obtain ⟨_, _, _, e⟩ := x; exact ⟨_, e⟩
  | frz ob u => obtain ⟨e, _⟩ := x; exact ⟨_, e⟩
  | tbl ps => exact ⟨_, (show h.get? a = some _ from x)⟩
  | met f y => exact ⟨_, (show h.get? a = some _ from x)⟩
  | ext φ => obtain ⟨_, e, _⟩ := x; exact e
structure FlyAt (H : Hp) (h0 : Heap) (a C : Addr) (h : Heap) : Prop where
  ex : ∃ (oe : Obj) (vs : Array Value) (T : Addr) (oT : Obj) (ts : Array Value) (a0 : Value), h.get? a = some oe ∧ oe.cls = Value.ref C ∧ oe.data = .fields vs ∧ vs[0]? = some a0 ∧
    vs[1]? = some (.ref T) ∧ T ≠ a ∧ h.get? T = some oT ∧ oT.data = .fields ts ∧ ts[3]? = some .none ∧ h0.get? T = none ∧ H T = none
  new : h0.get? a = none
  nt : H a = none
def CXF (P : Program) (w : World) : CXT := fun outer H s E e s' =>
  ∃ (a C : Addr) (m : Option Addr) (H' : Hp), e = .ref a ∧ s'.os = s.os ∧ AllBare s'.gens ∧ Un (frs outer) [] H H' s.heap s'.heap ∧ HOk P w H' s'.heap ∧ FlyAt H' s.heap a C s'.heap ∧ (m = none → F2 a .none s'.heap) ∧ E (.ref C) m H'
structure Own (X : Cx) : Prop where
  st : X.stack = X.env :: X.outer
  fr : X.env.frame = some X.env.locals
  ex : X.ex = []
section
variable {X : Cx} {pins : List (Addr × Obj)} {σ : St} {H : Hp} {s : Shared} {e C : Addr}
theorem Own.frs (o : Own X) : frs X.stack = X.env.locals :: X.fs := by
  rw [o.st]; unfold L2.frs; rw [List.filterMap_cons, o.fr]; rfl
theorem Inv.old_ne (I : Inv X pins σ H s) {b : Addr} {ob : Obj} (q : X.s₀.heap.get? b = some ob) : b ≠ X.env.locals :=
  Nat.ne_of_lt (Nat.lt_of_lt_of_le (Heap.lt_size q) I.ok.above)
theorem left_ok (I : Inv X pins σ H s) (o : Own X) {h0 : Heap} {ext : List Addr} {a0 : Value} {h2 : Heap} (hs0 : ∀ b ob, X.s₀.heap.get? b = some ob → ∃ o2, h0.get? b = some o2)
    (h0s : ∀ b ob, h0.get? b = some ob → ∃ o2, s.heap.get? b = some o2) (hx : ∀ b ∈ ext, h0.get? b = none ∧ H b = none) (he : e ∈ ext)
    (L : Heap.LeftW (PySem.W.hideAll s.heap (frs X.stack ++ ext)) (X.env :: X.outer) e (.ref C) a0 s.heap h2) :
    Un X.fs [] X.H₀ H X.s₀.heap h2 ∧ HOk X.prog X.w H h2 ∧ FlyAt H h0 e C h2 := by
  obtain ⟨k1, k2, ⟨oe, vs, T, oT, ts, t1, ⟨t2, t3⟩, t4, t5, t6, t7, t8, t9, t10⟩, k4⟩ := L
  have nox : ∀ b : Addr, b ∉ X.ex := fun b z => by rw [o.ex] at z; exact absurd z (by simp)
  have nx0 : ∀ b ob, X.s₀.heap.get? b = some ob → b ∉ ext := fun b ob q z => by
    obtain ⟨o2, e2⟩ := hs0 b ob q
    rw [(hx b z).1] at e2; cases e2
  have keepB : ∀ b ob, s.heap.get? b = some ob → b ∉ L2.frs X.stack → b ∉ ext → h2.get? b = some ob := fun b ob q n1 n2 =>
    k1 b ob (PySem.W.hideAll_get _ q fun z => (List.mem_append.mp z).elim n1 n2)
  have nf : ∀ b ob, X.s₀.heap.get? b = some ob → b ∉ X.fs → b ∉ L2.frs X.stack := fun b ob q n z => by
    rw [o.frs] at z
    rcases List.mem_cons.mp z with z | z
    · exact I.old_ne q z
    · exact n z
  have slotB : ∀ b ob, X.s₀.heap.get? b = some ob → b ∈ X.fs → ∃ sl, h2.get? b = some { ob with slots := sl } := fun b ob q hb => by
    obtain ⟨sl, e1⟩ := I.base.slot b ob q (I.ok.frf b hb) hb (nox b)
    obtain ⟨_, o2, ho2, hd2⟩ := I.ok.funs.mem hb
    rw [q] at ho2; cases ho2
    obtain ⟨sl2, e2⟩ := k4 b _ e1 hd2
    exact ⟨sl2, e2⟩
  have hok : HOk X.prog X.w H h2 := fun b ob q => by
    refine (I.hok b ob q).stay (fun c u hc r => ?_) (fun _ z => z) fun _ _ z => z
    have hc' : ∃ v, H c = some v := by
      rcases hc with rfl | hc
      · exact ⟨_, q⟩
      · exact ⟨_, hc⟩
    obtain ⟨v, hv⟩ := hc'
    refine keepB c u r (fun z => ?_) fun z => ?_
    · rw [I.stkFree c z] at hv; cases hv
    · rw [(hx c z).2] at hv; cases hv
  have hT : ∀ ob, s.heap.get? T = some ob → T ∈ ext := fun ob q => by
    by_cases z1 : T ∈ L2.frs X.stack
    · rw [o.st] at z1
      obtain ⟨_, o2, ho2, hd2⟩ := k2.mem z1
      rw [t8] at ho2; cases ho2
      exact absurd t9 (hd2 ts)
    · by_cases z2 : T ∈ ext
      · exact z2
      · rw [PySem.W.hideAll_get _ q fun z => (List.mem_append.mp z).elim z1 z2] at t6
        cases t6
  refine ⟨⟨fun b ob q n hb _ => ?_, fun b ob q n hb _ => slotB b ob q hb, fun b ob q n _ => I.base.free b ob q n (nox b), fun b ob q _ => ?_, I.base.tups, I.base.frzs, I.base.tbls⟩, hok, ⟨⟨oe, vs, T, oT, ts, a0, t1, t2, t4, t3, t5, t7, t8, t9, t10, ?_, ?_⟩, (hx e he).1, (hx e he).2⟩⟩
  · exact keepB b ob (I.base.keep b ob q n hb (nox b)) (nf b ob q hb) (nx0 b ob q)
  · by_cases hb : b ∈ X.fs
    · obtain ⟨sl, e2⟩ := slotB b ob q hb
      exact ⟨_, e2⟩
    · obtain ⟨o2, e2⟩ := I.base.there b ob q (nox b)
      exact ⟨o2, keepB b o2 e2 (nf b ob q hb) (nx0 b ob q)⟩
  · cases q : h0.get? T with
    | none => rfl
    | some ob =>
      obtain ⟨o2, e2⟩ := h0s T ob q
      rw [(hx T (hT o2 e2)).1] at q; cases q
  · cases q : H T with
    | none => rfl
    | some u =>
      obtain ⟨ob, e2⟩ := (I.hok T u q).there
      rw [(hx T (hT ob e2)).2] at q; cases q
theorem Own.up (o : Own X) (I : Inv X pins σ H s) : ∀ b ob, X.s₀.heap.get? b = some ob → ∃ o2, s.heap.get? b = some o2 := fun b ob q =>
  I.base.there b ob q fun z => by rw [o.ex] at z; exact absurd z (by simp)
theorem hid_frames (I : Inv X pins σ H s) (o : Own X) (ext : List Addr) : s.heap.FunFrames (PySem.W.hideAll s.heap (frs X.stack ++ ext)) (X.env :: X.outer) := by
  have z := I.stack
  have e := o.st
  rw [e] at z
  refine PySem.W.funFrames_hide z fun env he b hb => List.mem_append_left _ ?_
  rw [e]
  exact List.mem_filterMap.mpr ⟨env, he, hb⟩
theorem leave_new (I : Inv X pins σ H s) (o : Own X) {h1 : Heap} {vs : List Value} {M : Model} {E : Value → Shared → Prop} {Q : Unit → Shared → Prop} (hx : Heap.MadeExcOf s.heap h1 e (.ref C) vs)
    (hQ : ∀ h2, Un X.fs [] X.H₀ H X.s₀.heap h2 → HOk X.prog X.w H h2 → FlyAt H X.s₀.heap e C h2 → Q () { s with heap := h2 }) :
    wpAny M X.A (leaving X.env (.ref e)) Q E { s with heap := h1 } := by
  have I1 : Inv X pins σ H { s with heap := h1 } := I.kept (t' := s.toks) hx.keeps
  obtain ⟨t, he, _, _⟩ := hx.there
  have nox : ∀ b : Addr, b ∉ X.ex := fun b z => by rw [o.ex] at z; exact absurd z (by simp)
  have n0 : X.s₀.heap.get? e = none := by
    cases q : X.s₀.heap.get? e with
    | none => rfl
    | some ob =>
      obtain ⟨o2, e2⟩ := I.base.there e ob q (nox e)
      rw [hx.new] at e2; cases e2
  have nH : H e = none := by
    cases q : H e with
    | none => rfl
    | some u =>
      obtain ⟨ob, e2⟩ := (I.hok e u q).there
      rw [hx.new] at e2; cases e2
  have hext : ∀ b ∈ [e], X.s₀.heap.get? b = none ∧ H b = none := fun b hb => by
    have z : b = e := by simpa using hb
    subst z
    exact ⟨n0, nH⟩
  refine wpAny_leaving_firstW (base := PySem.W.hideAll h1 (frs X.stack ++ [e])) (a0 := .ref t) (outer := X.outer) (by rw [I.ok.frames, o.st]) (hid_frames I1 o [e]) o.fr he (fun b ob q => PySem.W.of_hideAll _ q)
    (PySem.W.hideAll_none _ (by simp)) rfl rfl rfl fun h2 hL => ?_
  obtain ⟨a1, a2, a3⟩ := left_ok I1 o (fun b ob q => ⟨ob, q⟩) (o.up I1) hext (by simp) hL
  exact hQ h2 a1 a2 a3
theorem leave_on (I : Inv X pins σ H s) (o : Own X) {h0 : Heap} {M : Model} {E : Value → Shared → Prop} {Q : Unit → Shared → Prop} (F : FlyAt H h0 e C s.heap) (hh : ∀ b ob, X.s₀.heap.get? b = some ob → ∃ o2, h0.get? b = some o2)
    (hQ : ∀ h2, Un X.fs [] X.H₀ H X.s₀.heap h2 → HOk X.prog X.w H h2 → FlyAt H X.s₀.heap e C h2 → Q () { s with heap := h2 }) :
    wpAny M X.A (leaving X.env (.ref e)) Q E s := by
  obtain ⟨oe, vs, T, oT, ts, a0, t1, t2, t4, t3, t5, t7, t8, t9, t10, t11, t12⟩ := F.ex
  have up : ∀ {b : Addr}, h0.get? b = none → X.s₀.heap.get? b = none := fun {b} z => by
    cases q : X.s₀.heap.get? b with
    | none => rfl
    | some ob =>
      obtain ⟨o2, e2⟩ := hh b ob q
      rw [z] at e2; cases e2
  have hext : ∀ b ∈ [e, T], X.s₀.heap.get? b = none ∧ H b = none := fun b hb => by
    rcases List.mem_cons.mp hb with rfl | hb
    · exact ⟨up F.new, F.nt⟩
    · have z : b = T := by simpa using hb
      subst z
      exact ⟨up t11, t12⟩
  refine wpAny_leaving_nextW (base := PySem.W.hideAll s.heap (frs X.stack ++ [e, T])) (cls := .ref C) (a0 := a0) (outer := X.outer) (by rw [I.ok.frames, o.st]) (hid_frames I o [e, T]) o.fr
    ⟨oe, vs, T, oT, ts, t1, ⟨t2, t3⟩, t4, t5, PySem.W.hideAll_none _ (by simp), t7, t8, t9, t10⟩ (fun b ob q => PySem.W.of_hideAll _ q) (PySem.W.hideAll_none _ (by simp)) fun h2 hL => ?_
  obtain ⟨a1, a2, a3⟩ := left_ok I o (fun b ob q => ⟨ob, q⟩) (o.up I) hext (by simp) hL
  exact hQ h2 a1 a2 a3
end
def Raises (X : Cx) (E : XK) : Prop := ∀ (pins : List (Addr × Obj)) (σ : St) (H : Hp) (s : Shared) (h1 : Heap) (e C : Addr) (vs : List Value), Inv X pins σ H s → Heap.MadeExcOf s.heap h1 e (.ref C) vs → E (.ref C) none H → X.xe (.ref e) { s with heap := h1 }
section
variable {P : Program} {w : World} {K : PySem.W.Frag} {mg : Str → Option Value} {base : Heap} {N : List Str} {qual : Str} {scope : Scope} {f : Addr} {cd : Value} {A : Around} {outer : List Env} {s : Shared} {H : Hp} {E : XK}
abbrev cxF (P : Program) (w : World) (K : PySem.W.Frag) (mg : Str → Option Value) (base : Heap) (N : List Str) (qual : Str) (scope : Scope) (f : Addr) (cd : Value) (A : Around) (outer : List Env) (s : Shared) (H : Hp) (E : XK) : Cx :=
  cxOf (CXF P w) P w K mg base N qual scope f cd A outer s H E
theorem own_cx : Own (cxF P w K mg base N qual scope f cd A outer s H E) := ⟨rfl, rfl, rfl⟩
theorem raises_cx : Raises (cxF P w K mg base N qual scope f cd A outer s H E) E := by
  intro pins σ H1 s1 h1 e C vs I hx hE
  obtain ⟨t, he, _, _⟩ := hx.there
  have hF : F2 e .none ({ s1 with heap := h1 } : Shared).heap := ⟨_, _, he, rfl, rfl⟩
  exact thn ((kf_leaving (.ref e) _).any hF (leave_new I own_cx hx (Q := fun _ s2 => ∃ h2, s2 = { s1 with heap := h2 } ∧ Un _ [] _ H1 _ h2 ∧ HOk _ _ H1 h2 ∧ FlyAt H1 _ e C h2) fun h2 u ok fl => ⟨h2, rfl, u, ok, fl⟩)) fun _ s2 ⟨⟨h2, e2, u, ok, fl⟩, f2⟩ => by
    subst e2
    exact ⟨e, C, none, H1, rfl, I.os, I.bare, u, ok, fl, fun _ => f2, hE⟩
theorem passes_cx : Passes (CXF P w) (cxF P w K mg base N qual scope f cd A outer s H E) E := by
  intro pins σ H1 s1 ev s2 I hx
  obtain ⟨a, C, m, H2, rfl, os, bare, un, ok, fl, hm, hE⟩ := hx
  have I2 : Inv (cxF P w K mg base N qual scope f cd A outer s H E) pins σ H2 s2 := I.call' os un ok bare (fun b z => absurd z (by simp))
  have go := leave_on I2 own_cx (M := model P w) (E := fun e s'' => CXF P w outer H s E e s'') fl (fun b ob q => I.base.there b ob q (by show b ∉ ([] : List Addr); simp)) (Q := fun _ s3 => ∃ h2, s3 = { s2 with heap := h2 } ∧ Un _ [] _ H2 _ h2 ∧ HOk _ _ H2 h2 ∧ FlyAt H2 _ a C h2) fun h2 u ok2 fl2 => ⟨h2, rfl, u, ok2, fl2⟩
  cases m with
  | none =>
    refine thn ((kf_leaving (.ref a) _).any (hm rfl) go) fun _ s3 ⟨⟨h2, e2, u, ok2, fl2⟩, f2⟩ => ?_
    subst e2
    exact ⟨a, C, none, H2, rfl, I2.os, I2.bare, u, ok2, fl2, fun _ => f2, hE⟩
  | some b =>
    refine thn go fun _ s3 ⟨h2, e2, u, ok2, fl2⟩ => ?_
    subst e2
    exact ⟨a, C, some b, H2, rfl, I2.os, I2.bare, u, ok2, fl2, (fun z => nomatch z), hE⟩
theorem passesOwn_cx : PassesOwn (model P w) (cxF P w K mg base N qual scope f cd A outer s H E).A (cxF P w K mg base N qual scope f cd A outer s H E).env (cxF P w K mg base N qual scope f cd A outer s H E).xe :=
  PassesOwn.leaving (Q₁ := fun e s'' => CXF P w outer H s E e s'') (E₁ := fun e s'' => CXF P w outer H s E e s'')
end
theorem pass0F {X : Cx} : Passes (CXF X.prog X.w) X E0 := fun _ _ _ _ _ _ _ ⟨_, _, _, _, _, _, _, _, _, _, _, z⟩ => False.elim z
theorem excIn_obj {K : PySem.W.Frag} {h : Heap} {C : Addr} {bmB : List Value} {newId : String} (X : K.In h) (q : PySem.W.excIn K C bmB newId = true) :
    ∃ bm N nm qn bs hdct sn sub ab col dd k0 k1 k2 k3 k5 mN, K.lookup C = some (excClassObj nm qn C N bs bm hdct sn sub ab col dd k0 k1 k2 k3 k5 newId) ∧ h.Ns N mN ∧ mN "__init__" = none ∧ OwnTail h bmB bm := by
  unfold PySem.W.excIn at q
  split at q
  · rename_i dd cd sl ho
    split at q
    · rename_i C2 bm k0 k1 k2 k3 n k5 hm hs
      rw [Bool.and_eq_true, Bool.and_eq_true, Bool.and_eq_true, Bool.and_eq_true, Bool.and_eq_true] at q
      obtain ⟨⟨⟨⟨⟨q1, q2⟩, q3⟩, q4⟩, q5⟩, q6⟩ := q
      have e1 := beq_iff_eq.mp q1
      have e2 := beq_iff_eq.mp q2
      have e3 : cd.hasDel = false := by simpa using q3
      have e6 := beq_iff_eq.mp q6
      subst e1 e2
      obtain ⟨nm, bs, mro, ns, qn, hd, sn, sub, ab, col, del⟩ := cd
      have hm2 : mro = .ref C2 :: bm := hm
      have e32 : del = false := e3
      subst hm2 e32
      have hsl : sl = #[k0, k1, k2, k3, some (.builtin n), k5] := by
        cases sl with
        | mk l => exact congrArg Array.mk hs
      subst hsl
      exact ⟨bm, ns, nm, qn, bs, hd, sn, sub, ab, col, dd, k0, k1, k2, k3, k5, _, ho, .of_isNs (PySem.W.isNs_of_in X q5), PySem.W.nsMap_none_of_in X q5 e6, PySem.W.tail_of_in X q4⟩
    · cases q
  · cases q
section
variable {X : Cx}
def tRaise (C : Addr) (E : XK) (t : TA) : TS := fun _ σ H => t σ H fun vs H1 => vs.length ≤ sizeLine ∧ E (.ref C) none H1
theorem ps_raise {x : Str} {C : Addr} {E : XK} {B newId initId : String} {bm : List Value} {e0 : Expr} {rest : List Expr} {t : TA} {np cpos pos : Pos} (hr : Raises X E) (hg : Gl X x) (hm : X.mg x = some (.ref C))
    (hq : PySem.W.excIn X.K C bm newId = true) (FB : ExcBaseFacts B newId initId bm) (hc : X.calm = true) (ha : PA X (e0 :: rest) t)
    (he : starEach (e0 :: rest) X.env = (false, eval e0 X.env) :: starEach rest X.env := by rfl) (hpl : (backTo cpos (starEach rest X.env)).any (·.1) = false := by rfl) (hd : (x == ("__debug__" : Str)) = false := by decide) :
    PS X (.Raise (some (.Call (.Name x np) (e0 :: rest) [] cpos)) none pos) (tRaise C E t) := by
  intro pins s σ H D I h
  obtain ⟨tl, N, nm, qn, bs, hdct, sn, sub, ab, col, dd, k0, k1, k2, k3, k5, mN, hCK, hN, hni, T⟩ := excIn_obj I.mod.kin hq
  have hC := I.mod.kin _ _ hCK
  refine wpAny_Raise_call_subT (C := C) (nm := nm) (q := qn) (N := N) (bs := bs) (bm := tl) (hdct := hdct) (sn := sn) (sub := sub) (ab := ab) (col := col) (dd := dd) (k0 := k0) (k1 := k1) (k2 := k2) (k3 := k3) (k5 := k5) (mN := mN)
    FB (T.hasType FB.hasBase) (I.ok.hd hc) ?_ hni (ld_glob I hg hm ⟨rfl, ?_⟩ hd)
  · rw [he]
    show (false || (backTo cpos (starEach rest X.env)).any (·.1)) = false
    rw [hpl]
    rfl
  · have ha2 := ha cpos pins s σ H _ I h
    rw [he] at ha2 ⊢
    refine Calls.evalArgs_plain (thn ha2 fun us s1 ⟨vs, H1, I1, r1, z, q1⟩ => ⟨rfl, by rw [← r1.length]; exact z, I1.bk _ _ hC, hN.keeps I1.bk, T.keeps I1.bk, fun h1 e hx => ?_⟩)
    exact hr pins σ H1 s1 h1 e C us I1 hx q1
end
end L2
set_option Elab.async false
set_option linter.all false
set_option maxRecDepth 100000
set_option maxHeartbeats 4000000
namespace L2
open PySem PySem.Spec PyProof.Rows
def excO (a C : Addr) : HO := .ext fun h => ∃ (oe : Obj) (vs : Array Value), h.get? a = some oe ∧ oe.cls = Value.ref C ∧ oe.data = .fields vs
section
variable {X : Cx} {pins : List (Addr × Obj)} {σ : St} {H : Hp} {s : Shared}
theorem Inv.track {a : Addr} {o : HO} (I : Inv X pins σ H s) (hn : H a = none) (h0 : X.s₀.heap.get? a = none) (hL : a ≠ X.env.locals) (hc : ∀ x c, X.env.cells.lookup x = some c → c ≠ a)
    (hp : ∀ p ∈ X.pn ++ pins, p.1 ≠ a) (ho : ObjOk X.prog X.w (upd H a o) s.heap a o) : Inv X pins σ (upd H a o) s := by
  have ne : ∀ b u, H b = some u → b ≠ a := fun b u q z => by rw [z, hn] at q; cases q
  refine ⟨I.ok, I.os, I.bare, ⟨I.base.keep, I.base.slot, fun b ob q n hx => ?_, I.base.there, fun b xs q => ?_, fun b ob u q => ?_, fun b ps q => ?_⟩, I.loc, I.cell, ?_, fun x c q => ?_, fun p hp' => ?_, fun b u q => ?_, I.len⟩
  · rw [upd_ne fun z => by rw [z, h0] at q; cases q]
    exact I.base.free b ob q n hx
  · have z := I.base.tups b xs q
    rw [upd_ne (ne b _ z)]; exact z
  · have z := I.base.frzs b ob u q
    rw [upd_ne (ne b _ z)]; exact z
  · obtain ⟨m, z⟩ := I.base.tbls b ps q
    exact ⟨m, by rw [upd_ne (ne b _ z)]; exact z⟩
  · rw [upd_ne (Ne.symm hL)]; exact I.free
  · rw [upd_ne (hc x c q)]; exact I.freeC x c q
  · obtain ⟨e1, e2, e3⟩ := I.pin p hp'
    exact ⟨e1, by rw [upd_ne (hp p hp')]; exact e2, e3⟩
  · by_cases hb : b = a
    · subst hb
      rw [upd_same] at q
      cases q
      exact ho
    · rw [upd_ne hb] at q
      exact (I.hok b u q).stay (fun c v _ r => r) (fun c r => by rw [upd_ne (ne c _ r)]; exact r) fun c xs r => by rw [upd_ne (ne c _ r)]; exact r
theorem left_inv {e C : Addr} (I : Inv X pins σ H s) (o : Own X) {ext : List Addr} {a0 : Value} {h2 : Heap} (hx : ∀ b ∈ ext, X.s₀.heap.get? b = none ∧ H b = none ∧ ∀ p ∈ X.pn ++ pins, p.1 ≠ b) (he : e ∈ ext)
    (L : Heap.LeftW (PySem.W.hideAll s.heap (frs X.stack ++ ext)) (X.env :: X.outer) e (.ref C) a0 s.heap h2) : Inv X pins σ H { s with heap := h2 } := by
  obtain ⟨u, hok, _⟩ := left_ok I o (fun b ob q => ⟨ob, q⟩) (o.up I) (fun b hb => ⟨(hx b hb).1, (hx b hb).2.1⟩) he L
  obtain ⟨k1, k2, _, k4⟩ := L
  have cellK : ∀ c v, s.heap.IsCell c v → h2.IsCell c v := fun c v ⟨ob, q, d⟩ => by
    obtain ⟨sl, e2⟩ := k4 c ob q fun vs z => by rw [d] at z; cases z
    exact ⟨_, e2, d⟩
  refine ⟨I.ok, I.os, I.bare, ?_, ?_, fun x c q => ?_, I.free, I.freeC, fun p hp => ?_, hok, I.len⟩
  · rw [o.ex]; exact u
  · obtain ⟨m, hn, hl⟩ := I.loc
    refine ⟨m, Heap.UpToSlots.ns k4 hn, fun i x v e1 e2 e3 => ?_⟩
    obtain ⟨uv, r, l⟩ := hl i x v e1 e2 e3
    refine ⟨uv, r, ?_⟩
    rcases l with l | ⟨k, c, q, z⟩
    · exact .inl l
    · exact .inr ⟨k, c, q, cellK c _ z⟩
  · obtain ⟨v, z⟩ := I.cell x c q
    exact ⟨v, cellK c v z⟩
  · obtain ⟨e1, e2, e3, e4, e5⟩ := I.pin p hp
    refine ⟨k1 _ _ (PySem.W.hideAll_get _ e1 fun z => ?_), e2, e3, e4, e5⟩
    rcases List.mem_append.mp z with z | z
    · rw [o.frs] at z
      rcases List.mem_cons.mp z with z | z
      · exact e3 z
      · exact e4 z
    · exact (hx p.1 z).2.2 p hp rfl
theorem excMatches_own {M : Model} {A : Around} {E : Value → Shared → Prop} {h : Heap} {g : Array GenState} {d : Drawn} {t : Nat} {os : OsState} {e C L : Addr} {oe : Obj} {Q : Bool → Shared → Prop}
    {nm q : Str} {N : Addr} {bs bm : List Value} {hdct : Bool} {sn : List Str} {sub : List Value} {ab : Bool} {col : Option Bool} {dd : Option Addr} {k0 k1 k2 k3 k5 : Option Value} {newId : String}
    {nm' q' : Str} {N' : Addr} {bs' bm' : List Value} {hdct' : Bool} {sn' : List Str} {sub' : List Value} {ab' : Bool} {col' : Option Bool} {dd' : Option Addr} {l0 l1 l2 l3 l5 : Option Value} {newId' : String}
    (hC : h.get? C = some (excClassObj nm q C N bs bm hdct sn sub ab col dd k0 k1 k2 k3 k5 newId)) (hL : h.get? L = some (excClassObj nm' q' L N' bs' bm' hdct' sn' sub' ab' col' dd' l0 l1 l2 l3 l5 newId'))
    (he : h.get? e = some oe) (hcls : oe.cls = .ref C) (hbase : bm'.contains (.type "BaseException") = true) (hsub : (Value.ref C :: bm).contains (.ref L) = true)
    (hq : Q true ⟨h, g, d, t, os⟩) : wpAny M A (excMatches (.ref e) (.ref L)) Q E ⟨h, g, d, t, os⟩ := by
  have hcB : (Value.ref L :: bm').contains (.type "BaseException") = true := by rw [List.contains_cons, hbase, Bool.or_true]
  have f := tc_notTuple
  unfold excMatches
  repeat (first | (with_reducible refine wpAny_loadPart_at he ?_; rw [hcls]) | with_reducible refine wpAny_loadPart_at hL ?_ | with_reducible refine wpAny_loadPart_at hC ?_ | (with_reducible refine wpAny_isSubtype_exc hL ?_; rw [hcB]) | (with_reducible refine wpAny_isSubtype_exc hC ?_; rw [hsub]) | wp_step)
  exact hq
abbrev Cx.tr (X : Cx) (xe : Value → Shared → Prop) (pn : List (Addr × Obj)) : Cx := { X with xe := xe, pn := pn }
abbrev Cx.hs (X : Cx) (v : Value) : Cx := { X with A := X.A.mark (some v), calm := false, xe := fun _ _ => False }
theorem Cx.Ok.tr {xe : Value → Shared → Prop} {pn : List (Addr × Obj)} (ok : X.Ok) : (X.tr xe pn).Ok :=
  ⟨ok.mod, ok.kind, ok.glob, ok.blt, ok.above, ok.inj, ok.has, ok.cab, ok.hd, ok.frames, ok.stk, ok.exf, ok.bs, ok.bsz, ok.noex, ok.exfs, ok.funs, ok.frf⟩
theorem Cx.Ok.untr {xe : Value → Shared → Prop} {pn : List (Addr × Obj)} (ok : (X.tr xe pn).Ok) : X.Ok :=
  ⟨ok.mod, ok.kind, ok.glob, ok.blt, ok.above, ok.inj, ok.has, ok.cab, ok.hd, ok.frames, ok.stk, ok.exf, ok.bs, ok.bsz, ok.noex, ok.exfs, ok.funs, ok.frf⟩
theorem Cx.Ok.hs {v : Value} (ok : X.Ok) : (X.hs v).Ok :=
  ⟨ok.mod, ok.kind, ok.glob, ok.blt, ok.above, ok.inj, ok.has, ok.cab, fun z => Bool.noConfusion z, ok.frames, ok.stk, ok.exf, ok.bs, ok.bsz, ok.noex, ok.exfs, ok.funs, ok.frf⟩
theorem Inv.tr {xe : Value → Shared → Prop} (I : Inv X pins σ H s) : Inv (X.tr xe (X.pn ++ pins)) [] σ H s :=
  ⟨I.ok.tr, I.os, I.bare, I.base, I.loc, I.cell, I.free, I.freeC, fun p hp => I.pin p (by simpa using hp), I.hok, I.len⟩
theorem Inv.untr {xe : Value → Shared → Prop} {pins' : List (Addr × Obj)} (I : Inv (X.tr xe (X.pn ++ pins)) pins' σ H s) : Inv X pins σ H s :=
  ⟨I.ok.untr, I.os, I.bare, I.base, I.loc, I.cell, I.free, I.freeC, fun p hp => I.pin p (List.mem_append_left _ hp), I.hok, I.len⟩
theorem SP.untr {xe : Value → Shared → Prop} {pins' : List (Addr × Obj)} {D : Ends} {f : Flow} {s' : Shared} (h : SP (X.tr xe (X.pn ++ pins)) pins' D f s') : SP X pins D f s' := by
  cases f with
  | next => obtain ⟨σ', H', I, q⟩ := h; exact ⟨σ', H', I.untr, q⟩
  | brk => obtain ⟨σ', H', I, q⟩ := h; exact ⟨σ', H', I.untr, q⟩
  | cont => obtain ⟨σ', H', I, q⟩ := h; exact ⟨σ', H', I.untr, q⟩
  | ret u => obtain ⟨v, σ', H', I, r, q⟩ := h; exact ⟨v, σ', H', I.untr, r, q⟩
theorem Inv.hs {v : Value} (I : Inv X pins σ H s) : Inv (X.hs v) pins σ H s :=
  ⟨I.ok.hs, I.os, I.bare, I.base, I.loc, I.cell, I.free, I.freeC, I.pin, I.hok, I.len⟩
theorem Inv.unhs {v : Value} (hd : X.calm = true → X.A.handled = none) (I : Inv (X.hs v) pins σ H s) : Inv X pins σ H s :=
  ⟨⟨I.ok.mod, I.ok.kind, I.ok.glob, I.ok.blt, I.ok.above, I.ok.inj, I.ok.has, I.ok.cab, hd, I.ok.frames, I.ok.stk, I.ok.exf, I.ok.bs, I.ok.bsz, I.ok.noex, I.ok.exfs, I.ok.funs, I.ok.frf⟩,
    I.os, I.bare, I.base, I.loc, I.cell, I.free, I.freeC, I.pin, I.hok, I.len⟩
theorem name_goes {i : Nat} {n : Str} {pos : Pos} {M : Model} {A : Around} {E : Value → Shared → Prop} {Q : Unit → Shared → Prop} (I : Inv X pins σ H s) (hN : X.N.Nodup) (hi : X.N[i]? = some n) (hl : X.env.scope.names.lookup n = some .local)
    (h : ∀ s', Inv X pins (σ.set i none) H s' → Q () s') : wpAny M A (do bindName X.env n .none; unbindBehindTheSuite X.env n pos) Q E s := by
  obtain ⟨m, hn, hlk⟩ := id I.loc
  have hcls : (X.env.scope.kind == .class || (X.env.scope.kind == .module && X.env.locals != X.env.globals)) = false := by rw [I.ok.kind]; rfl
  have hiσ : i < σ.length := by rw [I.len]; exact (List.getElem?_eq_some_iff.mp hi).1
  refine wpAny_nameGoes_keeps hl hn hcls fun h1 v hn1 hs => h _ ?_
  have oldne : ∀ b ob, X.s₀.heap.get? b = some ob → b ≠ X.env.locals := fun b ob q => I.old_ne q
  refine ⟨I.ok, I.os, I.bare, ⟨fun b ob q n hb hx => (hs.2 b (oldne b ob q)).trans (I.base.keep b ob q n hb hx), fun b ob q n hb hx => ?_, I.base.free, fun b ob q hx => ?_, I.base.tups, I.base.frzs, I.base.tbls⟩,
    ⟨_, hn1, fun j y w e1 e2 e3 => ?_⟩, fun y c q => ?_, I.free, I.freeC, fun p hp => ?_, fun b u q => ?_, by simpa using I.len⟩
  · obtain ⟨sl, e1⟩ := I.base.slot b ob q n hb hx
    exact ⟨sl, (hs.2 b (oldne b ob q)).trans e1⟩
  · obtain ⟨o2, e1⟩ := I.base.there b ob q hx
    exact ⟨o2, (hs.2 b (oldne b ob q)).trans e1⟩
  · by_cases hj : j = i
    · subst hj
      rw [List.getElem?_set_self hiσ] at e2
      cases e2
    · rw [List.getElem?_set_ne (Ne.symm hj)] at e2
      obtain ⟨u, r, l⟩ := hlk j y w e1 e2 e3
      refine ⟨u, r, ?_⟩
      rcases l with ⟨k, q⟩ | ⟨k, c, q, z⟩
      · refine .inl ⟨k, ?_⟩
        have : y ≠ n := fun z => hj (nodup_ix hN e1 (z ▸ hi))
        show (if y = n then v else m y) = some u
        rw [if_neg this]
        exact q
      · exact .inr ⟨k, c, q, z.sameBut hs (I.cne y c q)⟩
  · obtain ⟨w', z⟩ := I.cell y c q
    exact ⟨w', z.sameBut hs (I.cne y c q)⟩
  · obtain ⟨e, e2, e3, e4, e5⟩ := I.pin p hp
    exact ⟨(hs.2 p.1 e3).trans e, e2, e3, e4, e5⟩
  · refine (I.hok b u q).stay (fun c w' hc r => (hs.2 c ?_).trans r) (fun _ z => z) fun _ _ z => z
    intro z
    subst z
    rcases hc with rfl | hc
    · rw [I.free] at q; cases q
    · rw [I.free] at hc; cases hc
def tTry (L : Addr) (K : PySem.W.Frag) (i n : Nat) (tb : XK → TS) (th : TS) : TS := fun D σ H => ∃ E : XK, tb E D σ H ∧ ∀ C m H1, E (.ref C) m H1 →
  (∃ bm newId, PySem.W.excIn K C bm newId = true) ∧ PySem.W.mroIn K C (.ref L) = some true ∧
  ∀ a H2, Same H1 H2 → H2 a = some (excO a C) →
    th { nx := fun σ' H' => D.nx (σ'.set i none) H', rt := D.rt, bk := fun σ' H' => D.bk (σ'.set i none) H', ct := fun σ' H' => D.ct (σ'.set i none) H' } ((List.replicate n none).set i (some (.ref a))) H2
theorem ps_try {x n : Str} {i : Nat} {L : Addr} {body suite : List Stmt} {b0 : Stmt} {tb : XK → TS} {th : TS} {np hpos pos : Pos} {bmL : List Value} {newL : String} (o : Own X) (hc : X.calm = true) (hg : Gl X x) (hm : X.mg x = some (.ref L))
    (hq : PySem.W.excIn X.K L bmL newL = true) (hbL : bmL.contains (.type "BaseException") = true) (hN : X.N.Nodup) (hi : X.N[i]? = some n) (hl : X.env.scope.names.lookup n = some .local)
    (hb : ∀ (xe : Value → Shared → Prop) (pn : List (Addr × Obj)) (E : XK), Passes (CXF X.prog X.w) (X.tr xe pn) E → PSs (X.tr xe pn) body (tb E))
    (hs : ∀ v : Value, PSs (X.hs v) (b0 :: suite) th) (hd : (x == ("__debug__" : Str)) = false := by decide) :
    PS X (.Try body [.ExceptHandler (some (.Name x np)) (some n) (b0 :: suite) hpos] [] [] pos) (tTry L X.K i X.N.length tb th) := by
  intro pins s σ H D I h
  obtain ⟨E, hbody, hcatch⟩ := h
  refine wpAny_Try_except (wpAny_mono (hb (fun e s₁ => wpAny (model X.prog X.w) X.A (noteFrame e X.env) (fun _ s₂ => wpAny (model X.prog X.w) X.A (setFlight e none) (fun _ s₃ =>
      wpAny (model X.prog X.w) X.A (handleBy e X.env [.ExceptHandler (some (.Name x np)) (some n) (b0 :: suite) hpos]) (SP X pins D) X.xe s₃) X.xe s₂) X.xe s₁) (X.pn ++ pins) E ?_ [] s σ H D I.tr hbody)
    (fun f s1 q => ?_) fun e s1 q => q)
  · intro pins' σ1 H1 s1 ev s2 I1 hx
    obtain ⟨a, C, m, H2, rfl, os, bare, un, ok, fl, _, hE⟩ := hx
    obtain ⟨⟨bmC, newC, hqC⟩, hsub, hth⟩ := hcatch C m H2 hE
    have I2 : Inv X pins σ1 H2 s2 := (I1.call' os un ok bare (fun b z => absurd z (by simp))).untr
    -- what was there at the call
    have new_ne : ∀ {b : Addr}, s1.heap.get? b = none → b ≠ X.env.locals ∧ (∀ y c, X.env.cells.lookup y = some c → c ≠ b) ∧ (∀ p ∈ X.pn ++ pins, p.1 ≠ b) ∧ X.s₀.heap.get? b = none := fun {b} z => by
      have I0 : Inv X pins σ1 H1 s1 := I1.untr
      refine ⟨fun q => ?_, fun y c hy q => ?_, fun p hp q => ?_, ?_⟩
      · obtain ⟨m, ⟨ob, _, _, hob, _⟩, _⟩ := I0.loc
        rw [← q, z] at hob; cases hob
      · obtain ⟨v, ob, hob, _⟩ := I0.cell y c hy
        rw [q, z] at hob; cases hob
      · have e1 := (I0.pin p hp).1
        rw [q, z] at e1; cases e1
      · cases q : X.s₀.heap.get? b with
        | none => rfl
        | some ob =>
          obtain ⟨o2, e2⟩ := o.up I0 b ob q
          rw [z] at e2; cases e2
    have I0 : Inv X pins σ1 H1 s1 := I1.untr
    have h01 : ∀ b ob, s1.heap.get? b = some ob → ∃ o2, s2.heap.get? b = some o2 := fun b ob q => un.there b ob q (by simp)
    obtain ⟨oe, vs, T, oT, ts, a0, t1, t2, t4, t3, t5, t7, t8, t9, t10, t11, t12⟩ := fl.ex
    have hext : ∀ b ∈ [a, T], s1.heap.get? b = none ∧ H2 b = none := fun b hb' => by
      rcases List.mem_cons.mp hb' with rfl | hb'
      · exact ⟨fl.new, fl.nt⟩
      · have z : b = T := by simpa using hb'
        subst z
        exact ⟨t11, t12⟩
    have hfr : X.A.frames = some (X.env :: X.outer) := by rw [I.ok.frames, o.st]
    refine wpAny_noteFrame_onW (base := PySem.W.hideAll s2.heap (frs X.stack ++ [a, T])) (cls := .ref C) (a0 := a0) (outer := X.outer) hfr (hid_frames I2 o [a, T]) o.fr
      ⟨oe, vs, T, oT, ts, t1, ⟨t2, t3⟩, t4, t5, PySem.W.hideAll_none _ (by simp), t7, t8, t9, t10⟩ (fun b ob q => PySem.W.of_hideAll _ q) (PySem.W.hideAll_none _ (by simp)) fun h3 hN3 => ?_
    obtain ⟨n1, n2, n3, n4⟩ := hN3
    refine wpAny_setFlight_noneW (s := { s2 with heap := h3 }) n1 n2 n3 fun h4 m1 m2 m3 m4 => ?_
    have LW : Heap.LeftW (PySem.W.hideAll s2.heap (frs X.stack ++ [a, T])) (X.env :: X.outer) a (.ref C) a0 s2.heap h4 := ⟨m1, m2, m3, fun b ob q hnf => by
      obtain ⟨sl, e1⟩ := n4 b ob q hnf
      exact ⟨sl, m4 b _ e1 hnf⟩⟩
    obtain ⟨_, _, fl4⟩ := left_ok I2 o (o.up I0) h01 hext (by simp) LW
    have I4 : Inv X pins σ1 H2 { s2 with heap := h4 } := left_inv I2 o (fun b hb' => ⟨(new_ne (hext b hb').1).2.2.2, (hext b hb').2, (new_ne (hext b hb').1).2.2.1⟩) (by simp) LW
    have h04 : ∀ b ob, s1.heap.get? b = some ob → ∃ o2, h4.get? b = some o2 := fun b ob q => by
      obtain ⟨o2, e2⟩ := h01 b ob q
      by_cases hbf : b ∈ frs X.stack
      · obtain ⟨_, o3, ho3, hd3⟩ := I2.stack.mem hbf
        obtain ⟨sl, e4⟩ := LW.2.2.2 b o3 ho3 hd3
        exact ⟨_, e4⟩
      · refine ⟨o2, m1 b o2 (PySem.W.hideAll_get _ e2 fun z => (List.mem_append.mp z).elim hbf fun z => ?_)⟩
        rw [(hext b z).1] at q; cases q
    -- the class test
    have hkin : X.K.In h4 := I4.kIn
    obtain ⟨bC, NC, nmC, qnC, bsC, hdC, snC, subC, abC, colC, ddC, c0, c1, c2, c3, c5, mNC, hCK, _, _, _⟩ := excIn_obj hkin hqC
    obtain ⟨bL, NL, nmL, qnL, bsL, hdL, snL, subL, abL, colL, ddL, l0, l1, l2, l3, l5, mNL, hLK, _, _, TL⟩ := excIn_obj hkin hq
    have hmro : (Value.ref C :: bC).contains (.ref L) = true := by
      unfold PySem.W.mroIn PySem.W.clsIn at hsub
      rw [hCK] at hsub
      simpa [excClassObj] using hsub
    refine wpAny_handleBy_cons (codeAny_handlers_test ?_) (by intro q; cases q)
    have hglob : ∀ {E' : Value → Shared → Prop} {Q' : Value → Shared → Prop}, Q' (.ref L) { s2 with heap := h4 } → wpAny (model X.prog X.w) (X.A.mark (some (.ref a))) (eval (.Name x np) X.env) Q' E' { s2 with heap := h4 } := fun {E' Q'} q =>
      Calls.Name_function_global I.ok.kind hg (Calls.loadGlobal_global (by rw [I.ok.glob]; exact I4.mod.glob.keeps I4.bk) hm q) hd
    refine hglob ?_
    obtain ⟨oe4, vs4, T4, oT4, ts4, a04, u1, u2, u4, u3, u5, u7, u8, u9, u10, u11, u12⟩ := fl4.ex
    obtain ⟨hp2, g2, d2, tk2, os2⟩ := s2
    refine excMatches_own (hkin _ _ hCK) (hkin _ _ hLK) u1 u2 (TL.hasType hbL) hmro ?_
    show codeAny _ _ (.handlers _ _ _) _ _
    refine codeAny_handlers_suite_as ?_
    -- once more
    have hext4 : ∀ b ∈ [a, T4], s1.heap.get? b = none ∧ H2 b = none := fun b hb' => by
      rcases List.mem_cons.mp hb' with rfl | hb'
      · exact ⟨fl4.new, fl4.nt⟩
      · have z : b = T4 := by simpa using hb'
        subst z
        exact ⟨u11, u12⟩
    have kb4 : (PySem.W.hideAll h4 (frs X.stack ++ [a, T4])).StaysIn h4 := fun b ob q => PySem.W.of_hideAll _ q
    have fr4 := hid_frames I4 o [a, T4]
    refine wpAny_setFlight_noneW (s := ⟨h4, g2, d2, tk2, os2⟩) (base := PySem.W.hideAll h4 (frs X.stack ++ [a, T4])) (l := X.env :: X.outer) (cls := .ref C) (a0 := a04) (fl := .none) kb4 fr4
      ⟨oe4, vs4, T4, oT4, ts4, u1, ⟨u2, u3⟩, u4, u5, PySem.W.hideAll_none _ (by simp), u7, u8, u9, u10⟩ fun h5 r1 r2 r3 r4 => ?_
    have LW5 : Heap.LeftW (PySem.W.hideAll h4 (frs X.stack ++ [a, T4])) (X.env :: X.outer) a (.ref C) a04 h4 h5 := ⟨r1, r2, r3, fun b ob q hnf => ⟨ob.slots, r4 b ob q hnf⟩⟩
    obtain ⟨_, _, fl5⟩ := left_ok I4 o (o.up I0) h04 hext4 (by simp) LW5
    have I5 : Inv X pins σ1 H2 ⟨h5, g2, d2, tk2, os2⟩ := left_inv I4 o (fun b hb' => ⟨(new_ne (hext4 b hb').1).2.2.2, (hext4 b hb').2, (new_ne (hext4 b hb').1).2.2.1⟩) (by simp) LW5
    obtain ⟨oe5, vs5, T5, oT5, ts5, a05, v1, v2, v4, _⟩ := fl5.ex
    obtain ⟨ne1, ne2, ne3, ne4⟩ := new_ne fl5.new
    have I6 : Inv X pins σ1 (upd H2 a (excO a C)) ⟨h5, g2, d2, tk2, os2⟩ := I5.track fl5.nt ne4 ne1 ne2 ne3
      ⟨⟨oe5, vs5, v1, v2, v4⟩, ⟨oe5, v1⟩, fun k1 k2 ⟨ox, vx, y1, y2, y3⟩ kk => ⟨ox, vx, kk _ y1, y2, y3⟩⟩
    have I7 : Inv X pins (List.replicate X.N.length none) (upd H2 a (excO a C)) ⟨h5, g2, d2, tk2, os2⟩ := I6.weak (by rw [List.length_replicate, I6.len]) fun j v q => by
      rw [List.getElem?_replicate] at q
      split at q
      · cases q
      · cases q
    have S0 : Same H2 (upd H2 a (excO a C)) := fun b u q => by rw [upd_ne fun z => by rw [z, fl5.nt] at q; cases q]; exact q
    have hsu := hs (.ref a)
    refine store_ok (X := X.hs (.ref a)) (v := .ref a) I7.hs hN hi (.inl hl) rfl (fun s8 I8 => ?_) (.inr hl)
    refine wpAny_mono (hsu pins s8 _ _ _ I8 (hth a (upd H2 a (excO a C)) S0 upd_same)) (fun f s9 q9 => ?_) fun _ _ z => False.elim z
    have hdX : X.calm = true → X.A.handled = none := I.ok.hd
    cases f with
    | next =>
      obtain ⟨σ9, H9, I9, q⟩ := q9
      exact name_goes (I9.unhs hdX) hN hi hl fun s10 I10 => ⟨_, H9, I10, q⟩
    | brk =>
      obtain ⟨σ9, H9, I9, q⟩ := q9
      exact name_goes (I9.unhs hdX) hN hi hl fun s10 I10 => ⟨_, H9, I10, q⟩
    | cont =>
      obtain ⟨σ9, H9, I9, q⟩ := q9
      exact name_goes (I9.unhs hdX) hN hi hl fun s10 I10 => ⟨_, H9, I10, q⟩
    | ret u =>
      obtain ⟨v9, σ9, H9, I9, r9, q⟩ := q9
      exact name_goes (I9.unhs hdX) hN hi hl fun s10 I10 => ⟨v9, _, H9, I10, r9, q⟩
  · cases f with
    | next => exact wpAny_execs_nil q.untr
    | brk => exact q.untr
    | cont => exact q.untr
    | ret u => exact q.untr
end
end L2
set_option Elab.async false
set_option linter.all false
set_option maxRecDepth 100000
set_option maxHeartbeats 4000000
namespace L2
open PySem PySem.Spec PyProof.Rows
section
variable {prog : Program} {w : World} {A : Around} {R : Result → Shared → Prop} {s : Shared}
theorem compLoop_any {elt tg iter : Expr} {ifs : List Expr} {scope : Scope} {pos : Pos} {it acc : Value} {env : Env} (I : Nat → Shared → Prop)
    (turn : ∀ n s, I n s → wpAny (model prog w) A (pyNext it) (fun r s₁ => match r with
      | none => R (.ok .next) s₁
      | some v => wpAny (model prog w) A (letOwnedTupleGo tg it v) (fun _ t₁ => wpAny (model prog w) A (assign tg env v) (fun _ s₂ =>
          wpAny (model prog w) A (forIn ifs true fun c r => if r = true then do let ok ← isTrue c env (eval c env); pure (ForInStep.yield ok) else pure (ForInStep.yield r)) (fun ok s₃ =>
            if ok = true then wpAny (model prog w) A (eval elt env) (fun x s₄ => wpAny (model prog w) A (call (.builtin "list.append") [acc, x]) (fun _ s₅ => ∃ m, m < n ∧ I m s₅) (fun _ _ => False) s₄) (fun _ _ => False) s₃
            else ∃ m, m < n ∧ I m s₃) (fun _ _ => False) s₂) (fun _ _ => False) t₁) (fun _ _ => False) s₁) (fun _ _ => False) s)
    (n : Nat) (h : I n s) : codeAny (model prog w) A (.compLoop (.ListComp elt [⟨tg, iter, ifs, 0⟩] scope pos) 0 it acc env) R s := by
  refine codeAny_loop rfl I (fun n s hI => ?_) n h
  show wpAny _ A ((compTurn (.ListComp elt [⟨tg, iter, ifs, 0⟩] scope pos) 0 it acc env).onRaise (fun x => do noteFrame x env; theTreesLotGoes x)) _ _ s
  refine wpAny_noted ?_
  rw [compTurn_list]
  have no : ∀ (E : Value → Shared → Prop) (e : Value) (s : Shared), False → E e s := fun _ _ _ z => z.elim
  refine wpAny_bind (wpAny_standAt (wpAny_bind (wpAny_mono (turn n s hI) (fun r s₁ h₁ => ?_) (no _))))
  cases r with
  | none => exact wpAny_pure h₁
  | some v =>
    refine wpAny_bind (wpAny_mono h₁ (fun _ t₁ h₂ => ?_) (no _))
    refine wpAny_bind (wpAny_mono h₂ (fun _ s₂ h₃ => wpAny_bind (wpAny_mono h₃ (fun ok s₃ h₄ => ?_) (no _))) (no _))
    cases ok with
    | false => exact wpAny_pure ⟨rfl, h₄⟩
    | true => exact wpAny_bind (wpAny_bind (wpAny_mono h₄ (fun x s₄ h₅ => wpAny_bind (wpAny_mono h₅ (fun _ s₅ h₆ => wpAny_pure (wpAny_pure ⟨rfl, h₆⟩)) (no _))) (no _)))
end
def cxC (X : Cx) (N : List Str) (scope : Scope) (cl : List (Str × Addr)) (C : Addr) (s : Shared) (H : Hp) (fp : List Addr) : Cx :=
  { X with N := N, s₀ := s, H₀ := H, env := compEnvC scope cl C X.env, outer := X.stack, stack := X.stack, ex := fp, fn := fun _ => false, pn := [], xe := fun _ _ => False }
structure CompNames (X : Cx) (N : List Str) (js : List (Option Nat)) (scope : Scope) (cl : List (Str × Addr)) : Prop where
  kind : scope.kind = .function
  clos : closureFor scope X.env = pure cl
  nocell : ∀ y ∈ scope.names, y.2 ≠ .cell
  names : ∀ y ∈ scope.names, y.2 = .local → scope.names.lookup y.1 = some .local
  sub : ∀ x c, cl.lookup x = some c → X.env.cells.lookup x = some c
  has : ∀ x, ((compEnvC scope cl 0 X.env).kindOf x = some .cell ∨ (compEnvC scope cl 0 X.env).kindOf x = some .free) → ∃ c, cl.lookup x = some c
  len : js.length = N.length
  free : ∀ (i j : Nat) (x : Str), js[i]? = some (some j) → N[i]? = some x → X.N[j]? = some x ∧ ((compEnvC scope cl 0 X.env).kindOf x = some .cell ∨ (compEnvC scope cl 0 X.env).kindOf x = some .free) ∧
    (X.env.kindOf x = some .cell ∨ X.env.kindOf x = some .free)
def pickσ (js : List (Option Nat)) (σ : St) : St := js.map fun o => o.bind fun j => (σ[j]?).join
section
variable {X : Cx} {pins : List (Addr × Obj)} {σ : St} {H : Hp} {s : Shared} {N : List Str} {js : List (Option Nat)} {scope : Scope} {cl : List (Str × Addr)}
theorem comp_start {fp : List Addr} {h4 : Heap} {t' : Nat} (I : Inv X pins σ H s) (cn : CompNames X N js scope cl) (hfp : ∀ b ∈ fp, FpOk X pins H b) (hin : ∀ b ∈ fp, ∃ o, s.heap.get? b = some o)
    (ns : h4.Ns s.heap.objs.size fun _ => none) (sb : Heap.SameBut s.heap.objs.size (s.heap.push { cls := .type "dict", data := .dict #[] }) h4) :
    Inv (cxC X N scope cl s.heap.objs.size s H fp) [] (pickσ js σ) H { s with heap := h4, toks := t' } := by
  have keep : ∀ b o, s.heap.get? b = some o → h4.get? b = some o := fun b o e => (sb.2 b (Nat.ne_of_lt (Heap.lt_size e))).trans (Heap.get?_push_of_some _ e)
  have ltC : ∀ b ∈ fp, b < s.heap.objs.size := fun b hb => by obtain ⟨o, e⟩ := hin b hb; exact Heap.lt_size e
  refine ⟨⟨I.ok.mod, cn.kind, I.ok.glob, I.ok.blt, Nat.le_refl _, fun x y c e1 e2 => I.ok.inj x y c (cn.sub x c e1) (cn.sub y c e2), fun x hx => cn.has x hx, fun x c z => Bool.noConfusion z, I.ok.hd, I.ok.frames, .inl rfl, fun b hb => ⟨Nat.ne_of_lt (ltC b hb), fun x c e => (hfp b hb).2.2.2.2.1 x c (cn.sub x c e)⟩,
      I.bs, Nat.le_trans I.ok.bsz I.sz, fun b o e hb => ?_, fun b hb hf => ?_, I.stack, I.stkFree⟩,
    rfl, I.bare, Un.kept keep, ⟨_, ns, fun i x v e1 e2 e3 => ?_⟩, fun x c e => ?_, I.hok.fresh (Nat.le_refl _), fun x c e => I.freeC x c (cn.sub x c e), fun p hp => absurd (show p ∈ ([] : List (Addr × Obj)) from hp) (by simp), I.hok.kept keep, ?_⟩
  · rcases (hfp b hb).2.2.2.1 with z | z
    · exact I.ok.noex b o e z
    · exact absurd (Nat.lt_of_lt_of_le (Heap.lt_size e) (Nat.le_trans I.ok.bsz z)) (Nat.lt_irrefl _)
  · rcases List.mem_cons.mp (I.stkSub b hf) with z | z
    · exact (hfp b hb).2.1 z
    · exact (hfp b hb).2.2.1 z
  · have hp : ∃ j, js[i]? = some (some j) ∧ σ[j]? = some (some v) := by
      unfold pickσ at e2
      rw [List.getElem?_map] at e2
      cases q : js[i]? with
      | none => rw [q] at e2; cases e2
      | some oj =>
        rw [q] at e2
        cases oj with
        | none => cases e2
        | some j =>
          refine ⟨j, rfl, ?_⟩
          have e2' : (σ[j]?).join = some v := Option.some.inj e2
          cases z : σ[j]? with
          | none => rw [z] at e2'; cases e2'
          | some y => rw [z] at e2'; exact congrArg some e2'
    obtain ⟨j, q1, q2⟩ := hp
    obtain ⟨f1, f2, f3⟩ := cn.free i j x q1 e1
    obtain ⟨m, hn, hl⟩ := I.loc
    have vis : Vis X.env.scope x := by
      rcases f3 with z | z
      · exact .inr (.inl z)
      · exact .inr (.inr z)
    obtain ⟨u, r, l⟩ := hl j x v f1 q2 vis
    refine ⟨u, r, .inr ⟨f2, ?_⟩⟩
    rcases l with ⟨k, _⟩ | ⟨k, c, e, z⟩
    · rcases f3 with z | z
      · rw [k] at z; cases z
      · rw [k] at z; cases z
    · obtain ⟨c', e'⟩ := cn.has x f2
      have e'' := cn.sub x c' e'
      rw [e] at e''
      cases e''
      exact ⟨c, e', z.keeps keep⟩
  · obtain ⟨v, z⟩ := I.cell x c (cn.sub x c e)
    exact ⟨v, z.keeps keep⟩
  · unfold pickσ
    rw [List.length_map]
    exact cn.len
theorem comp_end {fp : List Addr} {σ2 : St} {H2 : Hp} {s2 : Shared} {pins2 : List (Addr × Obj)} {C : Addr} (I : Inv X pins σ H s) (hfp : ∀ b ∈ fp, FpOk X pins H b) (J : Inv (cxC X N scope cl C s H fp) pins2 σ2 H2 s2) : Inv X pins σ H2 s2 :=
  I.call' (ch := fp) J.os J.base J.hok J.bare fun b hb => ⟨(hfp b hb).2.2.2.1, (hfp b hb).2.1, (hfp b hb).2.2.2.2.1, (hfp b hb).2.2.2.2.2⟩
def tLC (js : List (Option Nat)) (wi : TI) (g : TG) (tt : TT) (te : TE) : TE := fun σ H Q => wi σ H fun J H1 => ∀ D, H1 D = none → ∃ W : Nat → Nat → St → Hp → Prop, (∃ m, W 0 m (pickσ js σ) (upd H1 D (.lst []))) ∧
  ∀ i m σ2 H2, W i m σ2 H2 → (J.stop i H2 ∧ Q (.ref D) H2) ∨ (J.go i H2 ∧ ∀ x H3, J.yld i H2 x H3 → g x σ2 H3 fun σ4 H4 => tt σ4 H4 fun b H5 =>
    if b = true then te σ4 H5 fun y H6 => ∃ xs, H6 D = some (.lst xs) ∧ xs.length < sizeLine ∧ ∃ m', m' < m ∧ W (i + 1) m' σ4 (upd H6 D (.lst (xs ++ [y]))) else ∃ m', m' < m ∧ W (i + 1) m' σ4 H5)
def tYes : TT := fun _ H Q => Q true H
def PTs (X : Cx) (ifs : List Expr) (t : TT) : Prop :=
  ∀ (pins : List (Addr × Obj)) (s : Shared) (σ : St) (H : Hp) (Q : Bool → Hp → Prop), Inv X pins σ H s → t σ H Q →
    wpAny (model X.prog X.w) X.A (forIn ifs true fun c r => if r = true then do let ok ← isTrue c X.env (eval c X.env); pure (ForInStep.yield ok) else pure (ForInStep.yield r)) (TP X pins σ Q) X.xe s
theorem pts_nil : PTs X [] tYes := fun _ _ _ H _ I h => wpAny_tests_nil ⟨H, I, h⟩
theorem pts_one {c : Expr} {t : TT} (hc : PT X c t) : PTs X [c] t := fun pins s σ H Q I h => wpAny_tests_one (hc pins s σ H Q I h)
theorem comp_block {elt tg iter : Expr} {ifs : List Expr} {pos : Pos} {g : TG} {tt : TT} {te : TE} {J : It} {H1 : Hp} {it : Addr} {fp : List Addr} {tn : Nat → Heap → Prop} {s2 : Shared} {QD : V → Hp → Prop} {RR : Value → Addr → Result → Shared → Prop} {E : Value → Shared → Prop}
    (hc : X.calm = true) (cn : CompNames X N js scope cl)
    (hg : ∀ C s H fp, PG (cxC X N scope cl C s H fp) tg g) (ht : ∀ C s H fp, PTs (cxC X N scope cl C s H fp) ifs tt) (he : ∀ C s H fp, PE (cxC X N scope cl C s H fp) elt te)
    (I : Inv X pins σ H1 s2) (T : Turn X.prog X.w X.K tg J fp it tn) (st0 : tn 0 s2.heap) (hfp : ∀ b ∈ fp, FpOk X pins H1 b)
    (h : ∀ D, H1 D = none → ∃ W : Nat → Nat → St → Hp → Prop, (∃ m, W 0 m (pickσ js σ) (upd H1 D (.lst []))) ∧
      ∀ i m σ2 H2, W i m σ2 H2 → (J.stop i H2 ∧ QD (.ref D) H2) ∨ (J.go i H2 ∧ ∀ x H3, J.yld i H2 x H3 → g x σ2 H3 fun σ4 H4 => tt σ4 H4 fun b H5 =>
        if b = true then te σ4 H5 fun y H6 => ∃ xs, H6 D = some (.lst xs) ∧ xs.length < sizeLine ∧ ∃ m', m' < m ∧ W (i + 1) m' σ4 (upd H6 D (.lst (xs ++ [y]))) else ∃ m', m' < m ∧ W (i + 1) m' σ4 H5))
    (hRR : ∀ (D C : Addr) (H2 : Hp) (s5 : Shared) (m : Str → Option Value), Inv X pins σ H2 s5 → s5.heap.Ns C m → H2 C = none → C ≠ X.env.locals → X.s₀.heap.objs.size ≤ C → (∀ x c, X.env.cells.lookup x = some c → c ≠ C) → (∀ p ∈ X.pn ++ pins, p.1 ≠ C) → QD (.ref D) H2 → RR (.ref D) C (.ok .next) s5) :
    wpAny (model X.prog X.w) X.A (newList []) (fun acc s₃ => wpAny (model X.prog X.w) X.A (newFunctionEnv scope X.env.globals cl [] X.env.qual none .none (some X.env)) (fun cenv s₄ =>
      codeAny (model X.prog X.w) X.A (.compStart (.ListComp elt [⟨tg, iter, ifs, 0⟩] scope pos) 0 (.ref it) acc { cenv with scope := relabel scope X.env }) (RR acc cenv.locals) s₄) E s₃) E s2 := by
  have I3 : Inv X pins σ (upd H1 s2.heap.objs.size (.lst [])) { s2 with heap := s2.heap.push { cls := .type "list", data := .seq ([] : List Value).toArray }, toks := s2.toks } := I.lnew .nil (Nat.zero_le _)
  refine wpAny_newObj_type (wpAny_newFunctionEnv cn.nocell (by intro y hy; simp at hy) (fun h4 ns4 sb4 => ?_) cn.kind)
  obtain ⟨W, ⟨m0, w0⟩, turn⟩ := h s2.heap.objs.size I.fresh
  have hD : H1 s2.heap.objs.size = none := I.fresh
  have lt2 : ∀ b ∈ fp, b < s2.heap.objs.size := fun b hb => by obtain ⟨o, e, _⟩ := T.obj 0 _ st0 b hb; exact Heap.lt_size e
  have hfp3 : ∀ b ∈ fp, FpOk X pins (upd H1 s2.heap.objs.size (.lst [])) b := fun b hb => ⟨by rw [upd_ne (Nat.ne_of_lt (lt2 b hb))]; exact (hfp b hb).1, (hfp b hb).2⟩
  have hin3 : ∀ b ∈ fp, ∃ o, (s2.heap.push { cls := .type "list", data := .seq ([] : List Value).toArray }).get? b = some o := fun b hb => by
    obtain ⟨o, e, _⟩ := T.obj 0 _ st0 b hb
    exact ⟨o, Heap.get?_push_of_some _ e⟩
  have I4 : Inv (cxC X N scope cl (s2.heap.push { cls := .type "list", data := .seq ([] : List Value).toArray }).objs.size { s2 with heap := s2.heap.push { cls := .type "list", data := .seq ([] : List Value).toArray }, toks := s2.toks } (upd H1 s2.heap.objs.size (.lst [])) fp) [] (pickσ js σ) (upd H1 s2.heap.objs.size (.lst []))
      { s2 with heap := h4, toks := s2.toks + ([] : List (Str × Value)).length } := comp_start (t' := s2.toks + ([] : List (Str × Value)).length) I3 cn hfp3 hin3 ns4 sb4
  have ltC : ∀ b ∈ fp, b < (s2.heap.push { cls := .type "list", data := .seq ([] : List Value).toArray }).objs.size := fun b hb => by rw [Heap.size_push]; exact Nat.lt_succ_of_lt (lt2 b hb)
  have st4 : tn 0 h4 := T.keep 0 _ _ st0 fun b hb o e => (sb4.2 b (Nat.ne_of_lt (ltC b hb))).trans (Heap.get?_push_of_some _ (Heap.get?_push_of_some _ e))
  have loop : codeAny (model X.prog X.w) X.A (.compLoop (.ListComp elt [⟨tg, iter, ifs, 0⟩] scope pos) 0 (.ref it) (.ref s2.heap.objs.size) (compEnvC scope cl (s2.heap.push { cls := .type "list", data := .seq ([] : List Value).toArray }).objs.size X.env))
      (RR (.ref s2.heap.objs.size) (s2.heap.push { cls := .type "list", data := .seq ([] : List Value).toArray }).objs.size) { s2 with heap := h4, toks := s2.toks + ([] : List (Str × Value)).length } := by
    generalize hCe : (s2.heap.push { cls := .type "list", data := .seq ([] : List Value).toArray }).objs.size = C at *
    generalize hse : ({ s2 with heap := s2.heap.push { cls := .type "list", data := .seq ([] : List Value).toArray }, toks := s2.toks } : Shared) = s3 at *
    have stat : ∀ {H' : Hp}, (∀ b ∈ fp, H' b = none) → ∀ b ∈ fp, FpOk (cxC X N scope cl C s3 (upd H1 s2.heap.objs.size (.lst [])) fp) [] H' b := fun hn b hb =>
      ⟨hn b hb, Nat.ne_of_lt (ltC b hb), I4.ok.exfs b hb, .inl hb, fun x c e => (hfp b hb).2.2.2.2.1 x c (cn.sub x c e), fun p hp => absurd (show p ∈ ([] : List (Addr × Obj)) from hp) (by simp)⟩
    refine compLoop_any (fun n s' => ∃ i σ' H', Inv (cxC X N scope cl C s3 (upd H1 s2.heap.objs.size (.lst [])) fp) [] σ' H' s' ∧ tn i s'.heap ∧ (∀ b ∈ fp, H' b = none) ∧ W i n σ' H') ?_ m0 ⟨0, _, _, I4, st4, fun b hb => (hfp3 b hb).1, w0⟩
    rintro n s5 ⟨i, σ5, H5, I5, st5, fr5, w5⟩
    rcases turn i n σ5 H5 w5 with ⟨stop, qn⟩ | ⟨go, step⟩
    · refine thn (T.done (cxC X N scope cl C s3 (upd H1 s2.heap.objs.size (.lst [])) fp) rfl rfl rfl hc i [] s5 σ5 H5 (fun _ _ => False) I5 (stat fr5) st5 stop) fun r s6 ⟨hr, I6⟩ => ?_
      subst hr
      obtain ⟨mC, nsC, _⟩ := id I6.loc
      have IX : Inv X pins σ H5 s6 := comp_end I3 hfp3 I6
      refine hRR _ C H5 s6 mC IX nsC I6.free ?_ ?_ ?_ ?_ qn
      · have := I3.lt; rw [← hCe]; exact Nat.ne_of_gt (by rw [← hse] at this; exact this)
      · have := I3.sz; rw [← hCe]; rw [← hse] at this; exact this
      · intro x c e z
        obtain ⟨v, q⟩ := I3.cell x c e
        have := q.lt
        rw [z, ← hCe, ← hse] at this
        exact absurd this (Nat.lt_irrefl _)
      · intro p hp z
        have := Heap.lt_size (I3.pin p hp).1
        rw [z, ← hCe, ← hse] at this
        exact absurd this (Nat.lt_irrefl _)
    · refine thn (T.item (cxC X N scope cl C s3 (upd H1 s2.heap.objs.size (.lst [])) fp) rfl rfl rfl hc i [] s5 σ5 H5 (fun _ _ => False) I5 (stat fr5) st5 go) fun r s6 ⟨u, hr, h6⟩ => ?_
      subst hr
      refine thn h6 fun _ s7 ⟨x, H7, I7, r7, y7, st7, fr7⟩ => ?_
      have I7' := I7.pinned (stat fr7) (T.obj _ _ st7)
      refine thn (hg C s3 _ fp _ s7 σ5 H7 x u _ I7' r7 (step x H7 y7)) fun _ s8 ⟨σ8, H8, I8, q8⟩ => ?_
      refine thn (ht C s3 _ fp _ s8 σ8 H8 _ I8 q8) fun ok s9 ⟨H9, I9, q9⟩ => ?_
      have again : ∀ {s' : Shared} {H' : Hp}, Inv (cxC X N scope cl C s3 (upd H1 s2.heap.objs.size (.lst [])) fp) ([] ++ pinsAt fp s7.heap) σ8 H' s' → (∃ m', m' < n ∧ W (i + 1) m' σ8 H') →
          ∃ m, m < n ∧ ∃ i σ' H', Inv (cxC X N scope cl C s3 (upd H1 s2.heap.objs.size (.lst [])) fp) [] σ' H' s' ∧ tn i s'.heap ∧ (∀ b ∈ fp, H' b = none) ∧ W i m σ' H' := fun {s' H'} I' ⟨m', hm, w'⟩ =>
        ⟨m', hm, i + 1, σ8, H', I'.unpinned, T.keep _ _ _ st7 fun b hb o e => (I'.pin (b, o) (List.mem_append_right _ (List.mem_append_right _ (mem_pinsAt hb e)))).1, fun b hb => by
          obtain ⟨o, e, d⟩ := T.obj _ _ st7 b hb
          exact (I'.pin (b, o) (List.mem_append_right _ (List.mem_append_right _ (mem_pinsAt hb e)))).2.1, w'⟩
      cases ok with
      | false =>
        rw [if_neg Bool.false_ne_true]
        rw [if_neg Bool.false_ne_true] at q9
        exact again I9 q9
      | true =>
        rw [if_pos rfl]
        rw [if_pos rfl] at q9
        refine thn (he C s3 _ fp _ s9 σ8 H9 _ I9 q9) fun y s10 ⟨yv, H10, I10, r10, xs, hxs, hz, q10⟩ => ?_
        refine thn (mt_append _ s10 σ8 H10 (.ref s2.heap.objs.size) [yv] _ [y] (fun _ H' => ∃ m', m' < n ∧ W (i + 1) m' σ8 H') I10 rfl (.cons r10 .nil) ⟨_, xs, yv, rfl, rfl, hxs, hz, q10⟩) fun _ s11 ⟨_, H11, I11, _, q11⟩ => again I11 q11
  exact codeAny_compStart_list loop (T.self _ 0 _ _ _ st4 loop)
theorem pe_lc {elt tg iter : Expr} {ifs : List Expr} {pos : Pos} {wi : TI} {g : TG} {tt : TT} {te : TE} (hc : X.calm = true) (cn : CompNames X N js scope cl) (hi : PI X tg iter wi)
    (hg : ∀ C s H fp, PG (cxC X N scope cl C s H fp) tg g) (ht : ∀ C s H fp, PTs (cxC X N scope cl C s H fp) ifs tt) (he : ∀ C s H fp, PE (cxC X N scope cl C s H fp) elt te)
    (hs : ∀ x, foldedSetIterable iter X.env x = pure x := by intro _; rfl) : PE X (.ListComp elt [⟨tg, iter, ifs, 0⟩] scope pos) (tLC js wi g tt te) := by
  intro pins s σ H Q I h
  rw [eval_ListComp]
  refine wpAny_comprehension_free (use := none) rfl hs cn.clos cn.kind cn.names (thn (hi pins s σ H _ I h) fun v s1 h1 => thn h1 fun itv s2 h2 => ?_)
  obtain ⟨it, fp, tn, J, H2, rfl, I2, T, st2, f2, q⟩ := h2
  refine comp_block (RR := fun acc C => compPost (model X.prog X.w) X.A X.xe none (EP X pins σ Q) acc C) hc cn hg ht he I2 T st2 f2 q ?_
  intro D C H3 s3 m I3 ns hC hL h0 hcl hp q3
  exact ⟨m, ns, fun h' sb => ⟨.ref D, H3, I3.turned (t' := s3.toks) (fun b o hb e => (sb.2 b hb).trans e) hC hL (.inr h0) hcl hp, rfl, q3⟩⟩
theorem ps_setLC {elt tg iter : Expr} {ifs : List Expr} {pos spos py : Pos} {wi : TI} {g : TG} {tt : TT} {te : TE} {k : Nat} {y : Str} (hc : X.calm = true) (cn : CompNames X N js scope cl) (hi : PI X tg iter wi)
    (hN : X.N.Nodup) (hk : X.N[k]? = some y) (hl : X.env.scope.names.lookup y = some .local)
    (hg : ∀ C s H fp, PG (cxC X N scope cl C s H fp) tg g) (ht : ∀ C s H fp, PTs (cxC X N scope cl C s H fp) ifs tt) (he : ∀ C s H fp, PE (cxC X N scope cl C s H fp) elt te)
    (hsw : swapsWith (.ListComp elt [⟨tg, iter, ifs, 0⟩] scope pos) (some (.Name y py)) spos.line X.env = pure true)
    (hs : ∀ x, foldedSetIterable iter X.env x = pure x := by intro _; rfl) : PS X (.Assign [.Name y py] (.ListComp elt [⟨tg, iter, ifs, 0⟩] scope pos) spos) (tAsg (tLC js wi g tt te) (gName k)) := by
  intro pins s σ H D' I h
  rw [exec_Assign_Name_used _ _ _ _ hsw]
  refine wpAny_bind (wpAny_standAt (wpAny_bind ?_))
  show wpAny _ _ (do let _ ← comprehension (.ListComp elt [⟨tg, iter, ifs, 0⟩] scope pos) scope X.env _ (newList []) false (eval iter X.env) (some (assign (.Name y py) X.env))) _ _ s
  refine wpAny_bind (thn (wpAny_comprehension_free (use := some (assign (.Name y py) X.env)) (Q := fun _ s' => SP X pins D' .next s') rfl hs cn.clos cn.kind cn.names (thn (hi pins s σ H _ I h) fun v s1 h1 => thn h1 fun itv s2 h2 => ?_)) fun _ s9 q9 => wpAny_pure (wpAny_pure q9))
  obtain ⟨it, fp, tn, J, H2, rfl, I2, T, st2, f2, q⟩ := h2
  refine comp_block (RR := fun acc C => compPost (model X.prog X.w) X.A X.xe (some (assign (.Name y py) X.env)) (fun _ s' => SP X pins D' .next s') acc C) (QD := fun x H1 => gName k x σ H1 D'.nx) hc cn hg ht he I2 T st2 f2 q ?_
  intro D C H3 s3 m I3 ns hC hL h0 hcl hp q3
  show wpAny _ _ (assign (.Name y py) X.env (.ref D)) _ _ s3
  refine wpAny_assign_Name (store_ok2 I3 hN hk (.inl hl) (v := .ref D) rfl (fun s4 I4 ⟨a, sb4, ha⟩ => ?_) (.inr hl))
  have hCa : C ≠ a := by
    rcases ha with z | z
    · rw [z]; exact hL
    · exact fun q => hcl y a z q.symm
  refine ⟨m, ns.sameBut sb4 hCa, fun h' sb => ⟨_, H3, I4.turned (t' := s4.toks) (fun b o hb e => (sb.2 b hb).trans e) hC hL (.inr h0) hcl hp, q3⟩⟩
end
end L2
set_option Elab.async false
set_option linter.all false
set_option maxRecDepth 100000
set_option maxHeartbeats 4000000
namespace L2
open PySem PySem.Spec PyProof.Rows
section
variable {X : Cx} {pins : List (Addr × Obj)} {σ : St} {H : Hp} {s : Shared} {h' : Heap}
end
section
variable {X : Cx}
end
section
variable {X : Cx}
end
end L2
set_option Elab.async false
set_option linter.all false
set_option maxRecDepth 100000
set_option maxHeartbeats 4000000
namespace L2
open PySem PySem.Spec PyProof.Rows
mutual
/-- the value v bears the datum d -/
def Rep (K : PySem.W.Frag) (H : Hp) : PyData → V → Prop
  | .none, v => v = .non
  | .bool b, v => v = .bl b
  | .int i, v => v = .int i
  | .str x, v => v = .str x
  | .list ds, v => ∃ a xs, v = .ref a ∧ SqL K H a xs ∧ RepL K H ds xs
  | .tuple ds, v => ∃ a xs, v = .ref a ∧ SqT K H a xs ∧ RepL K H ds xs
  | .dict _, _ => False
def RepL (K : PySem.W.Frag) (H : Hp) : List PyData → List V → Prop
  | [], xs => xs = []
  | d :: ds, xs => ∃ y ys, xs = y :: ys ∧ Rep K H d y ∧ RepL K H ds ys
end
section
variable {K : PySem.W.Frag} {H H' : Hp}
theorem RepL.nil : RepL K H [] [] := by unfold RepL; rfl
theorem RepL.cons {d : PyData} {ds : List PyData} {x : V} {xs : List V} (h : Rep K H d x) (t : RepL K H ds xs) : RepL K H (d :: ds) (x :: xs) := by
  unfold RepL
  exact ⟨x, xs, rfl, h, t⟩
theorem RepL.uncons {d : PyData} {ds : List PyData} {xs : List V} (h : RepL K H (d :: ds) xs) : ∃ y ys, xs = y :: ys ∧ Rep K H d y ∧ RepL K H ds ys := by
  unfold RepL at h
  exact h
theorem RepL.unnil {xs : List V} (h : RepL K H [] xs) : xs = [] := by
  unfold RepL at h
  exact h
theorem Rep.int {i : Int} : Rep K H (.int i) (.int i) := by unfold Rep; rfl
theorem Rep.str {x : Str} : Rep K H (.str x) (.str x) := by unfold Rep; rfl
theorem Rep.bool {b : Bool} : Rep K H (.bool b) (.bl b) := by unfold Rep; rfl
theorem Rep.none : Rep K H .none .non := by unfold Rep; rfl
theorem Rep.list {a : Addr} {xs : List V} {ds : List PyData} (h : SqL K H a xs) (r : RepL K H ds xs) : Rep K H (.list ds) (.ref a) := by unfold Rep; exact ⟨a, xs, rfl, h, r⟩
theorem Rep.tuple {a : Addr} {xs : List V} {ds : List PyData} (h : SqT K H a xs) (r : RepL K H ds xs) : Rep K H (.tuple ds) (.ref a) := by unfold Rep; exact ⟨a, xs, rfl, h, r⟩
theorem Rep.int_of {i : Int} {v : V} (h : Rep K H (.int i) v) : v = .int i := by unfold Rep at h; exact h
theorem Rep.str_of {x : Str} {v : V} (h : Rep K H (.str x) v) : v = .str x := by unfold Rep at h; exact h
theorem Rep.bool_of {b : Bool} {v : V} (h : Rep K H (.bool b) v) : v = .bl b := by unfold Rep at h; exact h
theorem Rep.none_of {v : V} (h : Rep K H .none v) : v = .non := by unfold Rep at h; exact h
theorem Rep.list_of {ds : List PyData} {v : V} (h : Rep K H (.list ds) v) : ∃ a xs, v = .ref a ∧ SqL K H a xs ∧ RepL K H ds xs := by unfold Rep at h; exact h
theorem Rep.tuple_of {ds : List PyData} {v : V} (h : Rep K H (.tuple ds) v) : ∃ a xs, v = .ref a ∧ SqT K H a xs ∧ RepL K H ds xs := by unfold Rep at h; exact h
theorem Same.seqT {a : Addr} {xs : List V} (e : Same H H') (h : SqT K H a xs) : SqT K H' a xs := by
  rcases h with (h | ⟨o, h⟩) | h
  · exact .inl (.inl (e _ _ h))
  · exact .inl (.inr ⟨o, e _ _ h⟩)
  · exact .inr h
mutual
theorem Rep.mono (e : Same H H') : ∀ {d : PyData} {v : V}, Rep K H d v → Rep K H' d v
  | .none, _, h => by rw [h.none_of]; exact Rep.none
  | .bool b, _, h => by rw [h.bool_of]; exact Rep.bool
  | .int i, _, h => by rw [h.int_of]; exact Rep.int
  | .str x, _, h => by rw [h.str_of]; exact Rep.str
  | .list ds, _, h => by
    obtain ⟨a, xs, rfl, q, r⟩ := h.list_of
    exact Rep.list (e.seq q) (RepL.mono e r)
  | .tuple ds, _, h => by
    obtain ⟨a, xs, rfl, q, r⟩ := h.tuple_of
    exact Rep.tuple (e.seqT q) (RepL.mono e r)
  | .dict _, _, h => by unfold Rep at h; exact h.elim
theorem RepL.mono (e : Same H H') : ∀ {ds : List PyData} {xs : List V}, RepL K H ds xs → RepL K H' ds xs
  | [], _, h => by rw [h.unnil]; exact RepL.nil
  | d :: ds, _, h => by
    obtain ⟨y, ys, rfl, r, t⟩ := h.uncons
    exact RepL.cons (Rep.mono e r) (RepL.mono e t)
end
theorem RepL.length : ∀ {ds : List PyData} {xs : List V}, RepL K H ds xs → ds.length = xs.length
  | [], _, h => by rw [h.unnil]; rfl
  | d :: ds, _, h => by
    obtain ⟨y, ys, rfl, r, t⟩ := h.uncons
    simp [RepL.length t]
theorem RepL.get : ∀ {ds : List PyData} {xs : List V} {i : Nat} {d : PyData}, RepL K H ds xs → ds[i]? = some d → ∃ x, xs[i]? = some x ∧ Rep K H d x
  | [], _, _, _, h, e => by simp at e
  | d :: ds, _, 0, _, h, e => by
    obtain ⟨y, ys, rfl, r, t⟩ := h.uncons
    simp at e
    subst e
    exact ⟨y, rfl, r⟩
  | d :: ds, _, i + 1, _, h, e => by
    obtain ⟨y, ys, rfl, r, t⟩ := h.uncons
    obtain ⟨x, q1, q2⟩ := RepL.get (i := i) t (by simpa using e)
    exact ⟨x, by simpa using q1, q2⟩
theorem RepL.append : ∀ {ds es : List PyData} {xs ys : List V}, RepL K H ds xs → RepL K H es ys → RepL K H (ds ++ es) (xs ++ ys)
  | [], _, _, _, h, t => by rw [h.unnil]; exact t
  | d :: ds, _, _, _, h, t => by
    obtain ⟨y, ys, rfl, r, t'⟩ := h.uncons
    exact RepL.cons r (RepL.append t' t)
theorem RepL.take : ∀ {ds : List PyData} {xs : List V} (n : Nat), RepL K H ds xs → RepL K H (ds.take n) (xs.take n)
  | _, _, 0, _ => by simp; exact RepL.nil
  | [], _, n + 1, h => by rw [h.unnil]; simp; exact RepL.nil
  | d :: ds, _, n + 1, h => by
    obtain ⟨y, ys, rfl, r, t⟩ := h.uncons
    simp only [List.take_succ_cons]
    exact RepL.cons r (RepL.take n t)
theorem RepL.drop : ∀ {ds : List PyData} {xs : List V} (n : Nat), RepL K H ds xs → RepL K H (ds.drop n) (xs.drop n)
  | _, _, 0, h => by simpa using h
  | [], _, n + 1, h => by rw [h.unnil]; simp; exact RepL.nil
  | d :: ds, _, n + 1, h => by
    obtain ⟨y, ys, rfl, r, t⟩ := h.uncons
    simp only [List.drop_succ_cons]
    exact RepL.drop n t
theorem RepL.reverse : ∀ {ds : List PyData} {xs : List V}, RepL K H ds xs → RepL K H ds.reverse xs.reverse
  | [], _, h => by rw [h.unnil]; simp; exact RepL.nil
  | d :: ds, _, h => by
    obtain ⟨y, ys, rfl, r, t⟩ := h.uncons
    simp only [List.reverse_cons]
    exact RepL.append (RepL.reverse t) (RepL.cons r RepL.nil)
theorem RepL.ints : ∀ (ns : List Int), RepL K H (ns.map .int) (ns.map .int)
  | [] => RepL.nil
  | n :: ns => RepL.cons Rep.int (RepL.ints ns)
theorem RepL.ints_of : ∀ {ns : List Int} {xs : List V}, RepL K H (ns.map .int) xs → xs = ns.map .int
  | [], _, h => h.unnil
  | n :: ns, _, h => by
    obtain ⟨y, ys, rfl, r, t⟩ := RepL.uncons h
    rw [r.int_of, RepL.ints_of t]
    rfl
end
section
variable {X : Cx} {pins : List (Addr × Obj)} {σ : St} {H : Hp} {s : Shared}
mutual
theorem Inv.reads (I : Inv X pins σ H s) : ∀ {d : PyData} {v : V} {u : Value}, Rep X.K H d v → RelV v u → ∃ as, Reads s.heap u d as
  | .none, _, _, h, r => by rw [h.none_of] at r; cases r; exact ⟨_, .none⟩
  | .bool b, _, _, h, r => by rw [h.bool_of] at r; cases r; exact ⟨_, .bool b⟩
  | .int i, _, _, h, r => by rw [h.int_of] at r; obtain ⟨t, rfl⟩ := r; exact ⟨_, .int i t⟩
  | .str x, _, _, h, r => by rw [h.str_of] at r; obtain ⟨t, rfl⟩ := r; exact ⟨_, .str x t⟩
  | .list ds, _, _, h, r => by
    obtain ⟨a, xs, rfl, q, t⟩ := h.list_of
    cases r
    obtain ⟨its, rv, ⟨o, n, e, c, _, d⟩, _⟩ := I.list q
    obtain ⟨as, ra⟩ := I.readsAll t rv
    exact ⟨_, .list e c d (by simpa using ra)⟩
  | .tuple ds, _, _, h, r => by
    obtain ⟨a, xs, rfl, q, t⟩ := h.tuple_of
    cases r
    obtain ⟨its, rv, ⟨o, e, c, n, d⟩, _⟩ := I.tuple q
    obtain ⟨as, ra⟩ := I.readsAll t rv
    exact ⟨_, .tuple e c d (by simpa using ra)⟩
  | .dict _, _, _, h, _ => by unfold Rep at h; exact h.elim
theorem Inv.readsAll (I : Inv X pins σ H s) : ∀ {ds : List PyData} {xs : List V} {us : List Value}, RepL X.K H ds xs → Vals xs us → ∃ as, ReadsAll s.heap us ds as
  | [], _, _, h, r => by rw [h.unnil] at r; cases r; exact ⟨_, .nil⟩
  | d :: ds, _, _, h, r => by
    obtain ⟨y, ys, rfl, p, t⟩ := h.uncons
    cases r with
    | cons r1 r2 =>
      obtain ⟨as, ra⟩ := I.reads p r1
      obtain ⟨bs, rb⟩ := I.readsAll t r2
      exact ⟨_, .cons ra rb⟩
end
def rEqD (K : PySem.W.Frag) (neg : Bool) : R2 := fun x y H Q => ∃ d e, Rep K H d x ∧ Rep K H e y ∧ d.canLay0 = true ∧ e.canLay0 = true ∧ min d.depth e.depth ≤ 60 ∧ Q (.bl (if neg then !PyData.eqv d e else PyData.eqv d e)) H
theorem op_eqD (hu : X.A.units + 64 < cLine) : OpR X (compareOp .Eq) (rEqD X.K false) := by
  intro pins s σ H x y v u Q I rx ry h
  obtain ⟨d, e, hd, he, c1, c2, hm, q⟩ := h
  obtain ⟨as, ra⟩ := I.reads hd rx
  obtain ⟨bs, rb⟩ := I.reads he ry
  exact SeqAt.compareEq_reads ra rb c1 c2 (by omega) ⟨.bl _, H, I, rfl, q⟩
theorem op_neD (hu : X.A.units + 64 < cLine) : OpR X (compareOp .NotEq) (rEqD X.K true) := by
  intro pins s σ H x y v u Q I rx ry h
  obtain ⟨d, e, hd, he, c1, c2, hm, q⟩ := h
  obtain ⟨as, ra⟩ := I.reads hd rx
  obtain ⟨bs, rb⟩ := I.reads he ry
  exact SeqAt.compareNe_reads ra rb c1 c2 (by omega) ⟨.bl _, H, I, rfl, q⟩
def clsV : V → Option Value
  | .ty n => some (.type n)
  | .ref C => some (.ref C)
  | _ => Option.none
theorem call_isinst : CallR X (.builtin "isinstance") (fun xs H Q => ∃ x c t cv b, xs = [x, c] ∧ clsV c = some cv ∧ TyOf X.K H x t ∧ PySem.W.kitOne X.K t cv = some b ∧ Q (.bl b) H) := by
  intro pins s σ H xs us Q I r h
  obtain ⟨x, c, t, cv, b, rfl, hc, ty, hk, q⟩ := h
  obtain ⟨u, u', rfl, ru, ru'⟩ := vals2 r
  have e : u' = cv := by
    cases c with
    | ty n => cases ru'; cases hc; rfl
    | ref C => cases ru'; cases hc; rfl
    | _ => cases hc
  subst e
  exact isinst_ok I ru ty hk fun tk => ⟨.bl b, H, I.tok tk, rfl, q⟩
theorem log2_small {n : Nat} (h : n < 10 ^ 20) : n.log2 < 1920 := by
  by_cases h0 : n = 0
  · subst h0; decide
  · rw [Nat.log2_lt h0]
    exact Nat.lt_of_lt_of_le h (Nat.le_trans (by decide : 10 ^ 20 ≤ 2 ^ 67) (Nat.pow_le_pow_right (by decide) (by decide)))
def PStr (X : Cx) (e : Expr) (pre : St → Hp → Prop) (n : Nat) : Prop :=
  ∀ (pins : List (Addr × Obj)) (s : Shared) (σ : St) (H : Hp), Inv X pins σ H s → pre σ H → wpAny (model X.prog X.w) X.A (eval e X.env) (fun u s' => ∃ x t, u = .str x t ∧ x.length ≤ n ∧ Inv X pins σ H s') X.xe s
theorem pstr_const {x : Str} {j : Nat} {pos : Pos} : PStr X (.Constant (.str x) j pos) (fun _ _ => True) x.length :=
  fun _ _ _ _ I _ => Calls.Constant_str ⟨x, _, rfl, Nat.le_refl _, I.tok _⟩
theorem pstr_int (i : Nat) {x : Str} {p pos : Pos} (hN : X.N[i]? = some x := by rfl) (hv : Vis X.env.scope x := by first | exact Or.inl rfl | exact Or.inr (Or.inl rfl) | exact Or.inr (Or.inr rfl)) (hd : (x == ("__debug__" : Str)) = false := by decide)
    (hcd : (x == ("__classdict__" : Str)) = false := by decide) : PStr X (.FormattedValue (.Name x p) (-1) none pos) (fun σ _ => ∃ k : Int, σ[i]? = some (some (.int k)) ∧ k.natAbs < 10 ^ 20) 21 := by
  intro pins s σ H I h
  obtain ⟨k, e1, hk⟩ := h
  refine wpAny_FormattedValue_plain (thn ((pe_var hN hv hd hcd) pins s σ H (fun v H1 => v = .int k ∧ H1 = H) I ⟨_, e1, rfl, rfl⟩) fun u s1 ⟨v, H1, I1, r1, e2, e3⟩ => ?_)
  subst e2 e3
  obtain ⟨t, rfl⟩ := r1
  have hl := int_text_length_le10 (k := 20) (by decide) hk
  refine wpAny_formatField_int (log2_small hk) ⟨_, _, rfl, ?_, I1.tok _⟩
  rw [PySem.ofString_length]
  exact hl
theorem tupleText_le (ts : List Str) : (tupleText ts).length ≤ piled ts + 3 := by
  unfold tupleText
  rw [strLen_append, strLen_append]
  have e1 : ((("(" : String) : Str)).length = 1 := rfl
  have e3 : (((if ts.length == 1 then ",)" else ")" : String) : Str)).length ≤ 2 := by split <;> decide
  rw [e1]
  by_cases h : ts = []
  · subst h
    have e2 : (Str.join ", " ([] : List Str)).length = 0 := rfl
    rw [e2]
    omega
  · have := join_length_add ts h
    omega
theorem ints_shown : ∀ (ns : List Int), (∀ k ∈ ns, k.natAbs < 10 ^ 20) → piled (PyData.shownAll (ns.map .int)) ≤ 23 * ns.length ∧ PyData.showableAll (ns.map .int) = true ∧ PyData.hasDictAll (ns.map .int) = false ∧ PyData.depthAll (ns.map .int) = 0
  | [], _ => ⟨Nat.le_refl _, rfl, rfl, rfl⟩
  | k :: ns, h => by
    obtain ⟨h1, h2, h3, h4⟩ := ints_shown ns fun j hj => h j (List.mem_cons_of_mem _ hj)
    have hk := h k List.mem_cons_self
    have hl := int_text_length_le10 (k := 20) (by decide) hk
    have hz : (Str.ofString (toString k)).length ≤ 21 := by rw [PySem.ofString_length]; exact hl
    refine ⟨?_, ?_, ?_, ?_⟩
    · show piled ((Str.ofString (toString k)) :: PyData.shownAll (ns.map .int)) ≤ _
      rw [piled_cons, List.length_cons]
      omega
    · show (PyData.showable (.int k) && PyData.showableAll (ns.map .int)) = true
      rw [h2, Bool.and_true]
      unfold PyData.showable
      exact decide_eq_true (log2_small hk)
    · show (PyData.hasDict (.int k) || PyData.hasDictAll (ns.map .int)) = false
      rw [h3]
      rfl
    · show max (PyData.depth (.int k)) (PyData.depthAll (ns.map .int)) = 0
      rw [h4]
      rfl
theorem pstr_tupr {kr : Nat} (hr : Room kr X.A) (i : Nat) {x : Str} {p pos : Pos} (hN : X.N[i]? = some x := by rfl) (hv : Vis X.env.scope x := by first | exact Or.inl rfl | exact Or.inr (Or.inl rfl) | exact Or.inr (Or.inr rfl)) (hd : (x == ("__debug__" : Str)) = false := by decide)
    (hcd : (x == ("__classdict__" : Str)) = false := by decide) : PStr X (.FormattedValue (.Name x p) 114 none pos) (fun σ H => ∃ (a : Addr) (ns : List Int), σ[i]? = some (some (.ref a)) ∧ SqT X.K H a (ns.map .int) ∧ ns.length ≤ 100 ∧ ∀ k ∈ ns, k.natAbs < 10 ^ 20) 2303 := by
  intro pins s σ H I h
  obtain ⟨a, ns, e1, hq, hl, hk⟩ := h
  refine wpAny_FormattedValue_repr (thn ((pe_var hN hv hd hcd) pins s σ H (fun v H1 => v = .ref a ∧ H1 = H) I ⟨_, e1, rfl, rfl⟩) fun u s1 ⟨v, H1, I1, r1, e2, e3⟩ => ?_)
  subst e2 e3
  obtain ⟨as, ra⟩ := I1.reads (Rep.tuple hq (RepL.ints ns)) r1
  cases r1
  obtain ⟨h1, h2, h3, h4⟩ := ints_shown ns hk
  have hz : (PyData.shown (.tuple (ns.map .int))).length ≤ 2303 := by
    have := tupleText_le (PyData.shownAll (ns.map .int))
    show (tupleText (PyData.shownAll (ns.map .int))).length ≤ 2303
    omega
  have hu := hr.un
  refine pyReprObj_of_reads ra h2 (fun z => by have z' : PyData.hasDictAll (ns.map .int) = true := z; rw [h3] at z'; cases z') hr.gd (by show X.A.units + (PyData.depthAll (ns.map .int) + 1) < cLine; rw [h4]; omega) (fun _ _ e => e) (fun h' u tk kk => ?_) (by rw [sizeLine_eq]; omega)
  have I2 : Inv X pins σ _ { s1 with heap := h', toks := tk } := I1.kept kk
  exact wpAny_formatField_str ⟨_, _, rfl, hz, I2⟩ ⟨_, _, rfl, hz, I2.tok _⟩ (by rw [sizeLine_eq]; omega)
theorem pstr_g {x : Str} {k : Int} {p pos : Pos} (h : PE X (.Name x p) (tC (.int k))) (hk : k.natAbs < 10 ^ 20) : PStr X (.FormattedValue (.Name x p) (-1) none pos) (fun _ _ => True) 21 := by
  intro pins s σ H I _
  refine wpAny_FormattedValue_plain (thn (h pins s σ H (fun v H1 => v = .int k ∧ H1 = H) I ⟨rfl, rfl⟩) fun u s1 ⟨v, H1, I1, r1, e2, e3⟩ => ?_)
  subst e2 e3
  obtain ⟨t, rfl⟩ := r1
  have hl := int_text_length_le10 (k := 20) (by decide) hk
  refine wpAny_formatField_int (log2_small hk) ⟨_, _, rfl, ?_, I1.tok _⟩
  rw [PySem.ofString_length]
  exact hl
def PStrs (X : Cx) (es : List Expr) (pre : St → Hp → Prop) (n : Nat) : Prop :=
  ∀ (pins : List (Addr × Obj)) (s : Shared) (σ : St) (H : Hp) (acc : Str) (Q : Str → Shared → Prop), Inv X pins σ H s → pre σ H → acc.length + n ≤ sizeLine → (∀ out s1, out.length ≤ acc.length + n → Inv X pins σ H s1 → Q out s1) →
    Joins (model X.prog X.w) X.A X.xe (evalEach es X.env) acc Q s
theorem pstrs_nil : PStrs X [] (fun _ _ => True) 0 := fun _ s _ _ acc _ I _ _ q => q acc s (Nat.le_add_right _ _) I
theorem pstrs_cons {e : Expr} {es : List Expr} {p q : St → Hp → Prop} {n m : Nat} (h : PStr X e p n) (t : PStrs X es q m) (hs : evalEach (e :: es) X.env = eval e X.env :: evalEach es X.env := by rfl) : PStrs X (e :: es) (fun σ H => p σ H ∧ q σ H) (n + m) := by
  intro pins s σ H acc Q I hp hz hQ
  rw [hs]
  refine thn (h pins s σ H I hp.1) fun u s1 ⟨x, t1, e1, hx, I1⟩ => ⟨x, t1, e1, by rw [strLen_append]; omega, ?_⟩
  exact t pins s1 σ H (acc ++ x) Q I1 hp.2 (by rw [strLen_append]; omega) fun out s2 ho I2 => hQ out s2 (by rw [strLen_append] at ho; omega) I2
theorem pe_fstr {v1 v2 : Expr} {rest : List Expr} {pre : St → Hp → Prop} {n : Nat} {pos : Pos} (h : PStrs X (v1 :: v2 :: rest) pre n) : PE X (.JoinedStr (v1 :: v2 :: rest) pos) (fun σ H Q => pre σ H ∧ n ≤ sizeLine ∧ ∀ x : Str, x.length ≤ n → Q (.str x) H) := by
  intro pins s σ H Q I hw
  obtain ⟨hp, hz, hq⟩ := hw
  have e0 : (Str.empty : Str).length = 0 := rfl
  refine wpAny_JoinedStr (h pins s σ H Str.empty _ I hp (by rw [e0]; omega) fun out s1 ho I1 => ?_)
  rw [e0] at ho
  exact ⟨by omega, .str out, H, I1.tok _, ⟨_, rfl⟩, hq out (by omega)⟩
end
end L2
set_option Elab.async false
set_option linter.all false
set_option maxRecDepth 100000
set_option maxHeartbeats 4000000
namespace L2
open PySem PySem.Spec PyProof.Rows
section
variable {prog : Program} {w : World} {A : Around} {I : Addr} {fp wr : List Addr} {n : Nat} {P : Nat → Value → Prop} {St : Nat → Heap → Prop}
end
section
variable {prog : Program} {w : World} {A : Around} {E : Value → Shared → Prop} {s : Shared}
end
section
variable {X : Cx}
def IsMax (d : Int) (ns : List Int) (M : Int) : Prop := (ns = [] ∧ M = d) ∨ (M ∈ ns ∧ ∀ a ∈ ns, a ≤ M)
theorem IsMax.uniq {d : Int} {ns : List Int} {M M' : Int} (h : IsMax d ns M) (h' : IsMax d ns M') : M = M' := by
  rcases h with ⟨e, h⟩ | ⟨h1, h2⟩
  · rcases h' with ⟨_, h'⟩ | ⟨h1', _⟩
    · rw [h, h']
    · rw [e] at h1'; cases h1'
  · rcases h' with ⟨e, _⟩ | ⟨h1', h2'⟩
    · rw [e] at h1; cases h1
    · exact Int.le_antisymm (h2' _ h1) (h2 _ h1')
theorem items_ints {its : List Value} {ns : List Int} (hi : IntsAre its ns) : ∃ xs : Array (Int × Tok), its.toArray = intItems xs ∧ ns = xs.toList.map (·.1) := by
  obtain ⟨xs, e⟩ := hi.allInts.items
  refine ⟨xs, e, ?_⟩
  rw [← hi.numsOf, ← nums_intItems, ← e]
theorem call_sum (hc : X.calm = true) : CallR X (.builtin "sum") (fun xs H Q => ∃ (p : Addr) (ns : List Int), xs = [.ref p] ∧ SqL X.K H p (ns.map .int) ∧ Q (.int ns.sum) H) := by
  intro pins s σ H xs us Q I r h
  obtain ⟨p, ns, rfl, hq, q⟩ := h
  obtain ⟨u, rfl, ru⟩ := vals1 r
  cases ru
  obtain ⟨its, rv, pl, hz⟩ := I.list hq
  obtain ⟨ys, e, hns⟩ := items_ints (intsAre_of rv)
  refine sum_intListG (I.ok.hd hc) (by rw [← e]; exact pl.isList) fun h1 tk t1 kk => ⟨.int ns.sum, H, I.kept kk, ⟨t1, ?_⟩, q⟩
  rw [preSum_eq, List.take_of_length_le (by simp), hns]
theorem numAt_ns {ys : Array (Int × Tok)} {ns : List Int} (hns : ns = ys.toList.map (·.1)) (hs : 0 < ys.size) : numAt ys (argBest (fun i j => decide (numAt ys i > numAt ys j)) (ys.size - 1)) ∈ ns ∧
    ∀ a ∈ ns, a ≤ numAt ys (argBest (fun i j => decide (numAt ys i > numAt ys j)) (ys.size - 1)) := by
  obtain ⟨h1, h2⟩ := argBest_gt (numAt ys) (ys.size - 1)
  constructor
  · rw [hns, numAt_eq]
    exact getD_mem (by rw [List.length_map, Array.length_toList]; omega)
  · intro a ha
    rw [hns] at ha
    obtain ⟨j, hj, rfl⟩ := mem_getD ha
    rw [List.length_map, Array.length_toList] at hj
    rw [← numAt_eq]
    exact h2 j (by omega)
theorem call_maxL (hc : X.calm = true) : CallR X (.builtin "max") (fun xs H Q => ∃ (p : Addr) (ns : List Int), xs = [.ref p] ∧ SqL X.K H p (ns.map .int) ∧ ns ≠ [] ∧ ∀ M, IsMax 0 ns M → Q (.int M) H) := by
  intro pins s σ H xs us Q I r h
  obtain ⟨p, ns, rfl, hq, hne, q⟩ := h
  obtain ⟨u, rfl, ru⟩ := vals1 r
  cases ru
  obtain ⟨its, rv, pl, hz⟩ := I.list hq
  obtain ⟨ys, e, hns⟩ := items_ints (intsAre_of rv)
  have hs : 0 < ys.size := by
    have : 0 < ns.length := List.length_pos_iff.mpr hne
    rw [hns, List.length_map, Array.length_toList] at this
    exact this
  refine max_intList (I.ok.hd hc) (by rw [← e]; exact pl.isList) hs fun v h1 tk hv kk => ?_
  obtain ⟨t, rfl⟩ := intItems_at hv
  exact ⟨.int _, H, I.kept kk, ⟨t, rfl⟩, q _ (.inr (numAt_ns hns hs))⟩
theorem call_sorted : CallR X (.builtin "sorted") (fun xs H Q => ∃ (p : Addr) (ns : List Int), xs = [.ref p] ∧ SqL X.K H p (ns.map .int) ∧ ns.length < 64 ∧ ∀ (l : Addr) (ms : List Int), H l = none → ms.Perm ns → ms.Pairwise (· ≤ ·) → Q (.ref l) (upd H l (.lst (ms.map .int)))) := by
  intro pins s σ H xs us Q I r h
  obtain ⟨p, ns, rfl, hq, h64, q⟩ := h
  obtain ⟨u, rfl, ru⟩ := vals1 r
  cases ru
  obtain ⟨its, rv, pl, hz⟩ := I.list hq
  have hl := rv.length
  rw [List.length_map] at hl
  refine sorted_ints pl.isList (intsAre_of rv) (by omega) fun out ms hi hp hs => ?_
  obtain ⟨e, he⟩ := sortedAll_at s.heap its out
  have fr : H (s.heap.objs.size + 1) = none := I.hok.fresh (Nat.le_succ _)
  refine ⟨.ref (s.heap.objs.size + 1), upd H (s.heap.objs.size + 1) (.lst (ms.map .int)), I.laid (t' := s.toks) (fun b o q => sortedAll_old q) (Nat.le_succ _) ⟨?_, out.toList, e, vals_ints hi, by simpa using he⟩, rfl, q _ ms fr hp hs⟩
  have := hp.length_eq
  rw [List.length_map, sizeLine_eq]
  omega
def tRange (ta : TA) : TE := fun σ H Q => ta σ H fun vs H1 => ∃ n : Nat, vs = [.int (n : Int)] ∧ ∀ q, H1 q = none → Q (.ref q) (upd H1 q (.rng 0 n))
theorem pe_range1 {a : Expr} {ta : TA} {p pos : Pos} (hg : Gl X "range") (hm : X.mg "range" = none) (ha : PA X [a] ta) (hs : starEach [a] X.env = [(false, eval a X.env)] := by rfl) : PE X (.Call (.Name "range" p) [a] [] pos) (tRange ta) := by
  intro pins s σ H Q I h
  refine Call_ (ld_blt I hg hm boot_range (PyProof.Rows.callWith_type1 (thn (ha pos pins s σ H _ I h) fun us s1 ⟨vs, H1, I1, r1, n, e, q⟩ => ?_) hs rfl))
  subst e
  obtain ⟨u, rfl, ⟨t, rfl⟩⟩ := vals1 r1
  refine call_range_1 ?_
  exact ⟨.ref s1.heap.objs.size, upd H1 s1.heap.objs.size (.rng 0 n), I1.laid (fun b o e => Heap.get?_push_of_some _ e) (Nat.le_refl _) ⟨_, _, _, Heap.get?_push_size _ rfl⟩, rfl, q _ (I1.hok.fresh (Nat.le_refl _))⟩
theorem vals_of : ∀ {xs : List V} {us : List Value}, xs.length = us.length → (∀ (i : Nat) x u, xs[i]? = some x → us[i]? = some u → RelV x u) → Vals xs us
  | [], [], _, _ => .nil
  | x :: xs, u :: us, hl, h => .cons (h 0 x u rfl rfl) (vals_of (by simpa using hl) fun i a b e1 e2 => h (i + 1) a b (by simpa using e1) (by simpa using e2))
  | [], _ :: _, hl, _ => by simp at hl
  | _ :: _, [], hl, _ => by simp at hl
theorem call_list_rng (hc : X.calm = true) : CallR X (.type "list") (fun xs H Q => ∃ (q : Addr) (n : Nat), xs = [.ref q] ∧ H q = some (.rng 0 n) ∧ n ≤ 2 ^ 20 ∧ ∀ l, H l = none → Q (.ref l) (upd H l (.lst ((List.range n).map fun i : Nat => V.int (i : Int))))) := by
  intro pins s σ H xs us Q I r h
  obtain ⟨q, n, rfl, hq, hn, k⟩ := h
  obtain ⟨u, rfl, ru⟩ := vals1 r
  cases ru
  obtain ⟨t, u, v, e⟩ := (show ObjOk X.prog X.w H s.heap q (.rng 0 n) from I.hok q _ hq)
  refine call_list_range (n := n) (I.ok.hd hc) e (small_one (by omega) (by omega) (by omega) (by omega)) (by rw [rangeSize_one]; split <;> omega) (by omega) fun h1 tk acc c kk hS hacc => ?_
  have fr : H s.heap.objs.size = none := I.hok.fresh (Nat.le_refl _)
  refine ⟨.ref s.heap.objs.size, upd H s.heap.objs.size (.lst ((List.range n).map fun i : Nat => V.int (i : Int))), I.laid kk (Nat.le_refl _) ⟨?_, acc.toList, c, ?_, by simpa using hS⟩, rfl, k _ fr⟩
  · rw [List.length_map, List.length_range, sizeLine_eq]; omega
  · refine vals_of ?_ fun i x w e1 e2 => ?_
    · rw [List.length_map, List.length_range, Array.length_toList]
      exact hacc.1.symm
    · have hi : i < n := by
        have := (List.getElem?_eq_some_iff.mp e1).1
        rwa [List.length_map, List.length_range] at this
      rw [List.getElem?_map, List.getElem?_range hi] at e1
      have e1' : V.int (i : Int) = x := Option.some.inj e1
      subst e1'
      obtain ⟨t', ht'⟩ := hacc.2 i w (by rw [← Array.getElem?_toList]; exact e2)
      exact ⟨t', by rw [ht']; congr 1; omega⟩
theorem vals_find {y : V} : ∀ {xs : List V} {us : List Value} {j : Nat}, Vals xs us → xs.all flatV = true → xs.findIdx? (fun z => eqV z y) = some j →
    ∃ hj : j < us.length, eqU y us[j] = true ∧ ∀ m (hm : m < us.length), m < j → eqU y us[m] = false
  | _, _, _, .nil, _, e => by simp at e
  | x :: xs, u :: us, j, .cons r t, f, e => by
    rw [List.all_cons, Bool.and_eq_true] at f
    rw [List.findIdx?_cons] at e
    by_cases hx : eqV x y = true
    · rw [if_pos hx] at e
      cases e
      exact ⟨by simp, by simpa [eqU_of r f.1] using hx, fun m hm hlt => absurd hlt (Nat.not_lt_zero _)⟩
    · rw [if_neg hx] at e
      cases q : xs.findIdx? (fun z => eqV z y) with
      | none => rw [q] at e; cases e
      | some i =>
        rw [q] at e
        have e' : i + 1 = j := Option.some.inj e
        subst e'
        obtain ⟨h1, h2, h3⟩ := vals_find t f.2 q
        refine ⟨by simpa using h1, by simpa using h2, fun m hm hlt => ?_⟩
        cases m with
        | zero => simpa [eqU_of r f.1] using hx
        | succ m => simpa using h3 m (by simpa using hm) (by omega)
theorem vals_count {y : V} : ∀ {xs : List V} {us : List Value}, Vals xs us → xs.all flatV = true → us.countP (eqU y) = xs.countP fun z => eqV z y
  | _, _, .nil, _ => rfl
  | x :: xs, u :: us, .cons r t, f => by
    rw [List.all_cons, Bool.and_eq_true] at f
    rw [List.countP_cons, List.countP_cons, eqU_of r f.1, vals_count t f.2]
def rIndex (K : PySem.W.Frag) : V → List V → Hp → VK → Prop := fun x vs H Q => ∃ l xs y j, x = .ref l ∧ vs = [y] ∧ SqL K H l xs ∧ xs.all flatV = true ∧ flatV y = true ∧ xs.findIdx? (fun z => eqV z y) = some j ∧ Q (.int (j : Nat)) H
theorem mt_index : MtR X "list.index" (rIndex X.K) := by
  intro pins s σ H x vs v us Q I rx rv h
  obtain ⟨l, xs, y, j, rfl, rfl, hq, fx, fy, hj, q⟩ := h
  cases rx
  obtain ⟨u, rfl, ru⟩ := vals1 rv
  obtain ⟨its, r, ⟨o, n, e, c, dn, d⟩, hz⟩ := I.list hq
  obtain ⟨h1, h2, h3⟩ := vals_find r fx hj
  obtain ⟨oc, od, odt, osl⟩ := o
  have c' : oc = .type "list" := c
  have d' : odt = .seq its.toArray n := d
  subst c' d'
  have hl := r.length
  refine call_meets PySem.F.slot_list_index ⟨_, e, rfl⟩ PySem.F.entry_list_index (PySem.F.args_list_index_2 _ _) (SeqAt.list_indexAt l its.toArray n od osl u (eqU y) j (by simpa using h1) (by rw [sizeLine_eq] at hz; omega) (by simpa using h2) (fun m hm hlt => by simpa using h3 m (by simpa using hm) hlt))
    ⟨e, fun w hw => mem_eqAt ru fy r fx w (by simpa using hw), ⟨.int (j : Nat), H, I.tok _, ⟨_, rfl⟩, q⟩⟩
def rCount (K : PySem.W.Frag) : V → List V → Hp → VK → Prop := fun x vs H Q => ∃ l xs y, x = .ref l ∧ vs = [y] ∧ SqL K H l xs ∧ xs.all flatV = true ∧ flatV y = true ∧ Q (.int (xs.countP fun z => eqV z y : Nat)) H
theorem mt_count : MtR X "list.count" (rCount X.K) := by
  intro pins s σ H x vs v us Q I rx rv h
  obtain ⟨l, xs, y, rfl, rfl, hq, fx, fy, q⟩ := h
  cases rx
  obtain ⟨u, rfl, ru⟩ := vals1 rv
  obtain ⟨its, r, ⟨o, n, e, c, dn, d⟩, hz⟩ := I.list hq
  obtain ⟨oc, od, odt, osl⟩ := o
  have c' : oc = .type "list" := c
  have d' : odt = .seq its.toArray n := d
  subst c' d'
  refine call_meets PySem.F.slot_list_count ⟨_, e, rfl⟩ PySem.F.entry_list_count (PySem.F.args_list_count_2 _ _) (SeqAt.list_countAt l its.toArray n od osl u (eqU y))
    ⟨e, fun w hw => mem_eqAt ru fy r fx w (by simpa using hw), ⟨.int _, H, I.tok _, ⟨s.toks, ?_⟩, q⟩⟩
  rw [show its.toArray.toList = its from rfl, vals_count r fx]
end
end L2
set_option Elab.async false
set_option linter.all false
set_option maxRecDepth 100000
set_option maxHeartbeats 4000000
namespace L2
open PySem PySem.Spec PyProof.Rows PySem.W PySem.Builtin.Getset_descriptor
section
variable {prog : Program} {w : World} {A : Around} {R : Result → Shared → Prop} {E : Value → Shared → Prop} {s : Shared} {K : Frag} {x C : Addr} {oe : Obj}
theorem exc_type {M : Model} {h : Heap} (hx : h.get? x = some oe) (hc : oe.cls = .ref C) : Looks M h (typeOf (.ref x)) (.ref C) := hc ▸ (Looks.ld hx).andThen .now
theorem exc_get {tp : Value} (X : K.In s.heap) (hx : s.heap.get? x = some oe) (hc : oe.cls = .ref C) (hm : mroIn K C (.type "object") = some true)
    (h : R (.ok (.ret (.ref C))) s) : codeAny (model prog w) A (.call (.builtin "getset_descriptor.__get__") ⟨[.builtin "object.__class__", .ref x, tp], []⟩) R s := by
  obtain ⟨hh, g, dr, t, os⟩ := s
  have L0 := exc_type (M := model prog w) hx hc
  have L1 := looks_mroIn (M := model prog w) X hm
  refine codeAny_call_builtin KF.slot_gs.plain KF.entry_gs ?_
  refine KF.slot_gs.check _ _ _ _ _ _ _ _ KF.type_class (KF.args_gs _ _ _) ?_
  unfold Builtin.«getset_descriptor.__get__» descrGet
  rw [dga_obj]
  refine wpAny_bind (wpAny_pure ?_)
  unfold descrGetter descrCheckInstance descrNameAndClass isInstance
  simp only [KF.owner_class]
  repeat lk
  refine ⟨Code.quiet_builtin _ (by decide +kernel), codeAny_builtin KF.entry_class ?_⟩
  unfold Builtin.«object.__class__» shownTypeOf
  repeat lk
  exact h
structure ExcLook (K : Frag) (C : Addr) : Prop where
  ga : findIn K (.ref C) "__getattribute__" = some (some (.builtin "BaseException.__getattribute__"))
  gt : findIn K (.ref C) "__getattr__" = some none
  cl : findIn K (.ref C) "__class__" = some (some (.builtin "object.__class__"))
  mo : mroIn K C (.type "object") = some true
  mb : mroIn K C (.type "BaseException") = some true
  is : ∃ cd, clsIn K C = some cd
theorem exc_entry {tk : Tok} {Q : Fin → Shared → Prop} (X : K.In s.heap) (L : ExcLook K C) (hx : s.heap.get? x = some oe) (hc : oe.cls = .ref C) (hq : Q (.done (.ret (.ref C))) s) :
    wpAny (model prog w) A (Builtin.«object.__getattribute__» ⟨[.ref x, .str "__class__" tk], []⟩) Q E s := by
  obtain ⟨hh, g, d, t, os⟩ := s
  have hT5 : (⟨hh, g, d, t, os⟩ : Shared).TypeIs (.builtin "object.__class__") "getset_descriptor" := F.typeOf_object_class
  have f5 := F.typeOf_object_class
  have f6 := F.slot_gs_get.lookup
  have f7 := F.slot_gs_set.lookup
  have L0 := exc_type (M := model prog w) hx hc
  have L1 := looks_findIn (M := model prog w) X L.cl
  repeat (any_goals (first | assumption | with_reducible refine L0.at ?_ | with_reducible refine L1.at ?_ | (with_reducible refine wpAny_loadPart_at hx ?_; rw [hc]) | wp_step))
  refine exc_get X hx hc L.mo ?_
  repeat (any_goals (first | assumption | wp_step))
theorem exc_check {M : Model} {nameV : Value} {Q : Unit → Shared → Prop} (X : K.In s.heap) (L : ExcLook K C) (hx : s.heap.get? x = some oe) (hc : oe.cls = .ref C) (hq : Q () s) :
    wpAny M A (checkBuiltinCall "BaseException.__getattribute__" ⟨[.ref x, nameV], []⟩) Q E s := by
  obtain ⟨hh, g, d, t, os⟩ := s
  have hk : builtinKind "BaseException.__getattribute__" = some .slot := by decide +kernel
  have hs : splitId "BaseException.__getattribute__" = some ("BaseException", "__getattribute__") := by decide +kernel
  have ha := F.args_bexc_ga (.ref x) nameV
  have L0 := exc_type (M := M) hx hc
  have L2 := looks_mroIn (M := M) X L.mb
  unfold checkBuiltinCall
  simp only [hk, hs]
  refine wpAny_bind ?_
  unfold isInstance
  refine wpAny_bind (L0.at (L2.at ?_))
  repeat (any_goals (first | assumption | wp_step))
theorem exc_attr {Q : Option Value → Shared → Prop} (X : K.In s.heap) (L : ExcLook K C) (hx : s.heap.get? x = some oe) (hc : oe.cls = .ref C) (hq : Q (some (.ref C)) { s with toks := s.toks + 1 }) :
    wpAny (model prog w) A (getAttr? (.ref x) "__class__") Q E s := by
  obtain ⟨hh, g, d, t, os⟩ := s
  have FB := F.excAttr_ValueError
  have f3 := FB.ga.bind (.ref x)
  have hx2 : (Value.builtin "BaseException.__getattribute__" == Value.builtin "object.__getattribute__") = false := by decide +kernel
  have hx1 : (onTheHeap (Value.ref C) && Value.builtin "BaseException.__getattribute__" == Value.builtin "object.__getattribute__") = false := by rw [hx2]; rfl
  have L0 := exc_type (M := model prog w) hx hc
  have L1 := looks_findIn (M := model prog w) X L.ga
  have L2 := looks_findIn (M := model prog w) X L.gt
  unfold getAttr? getAttrBy? getAttrBy
  repeat (any_goals (first | assumption | with_reducible refine L0.at ?_ | with_reducible refine L1.at ?_ | with_reducible refine L2.at ?_ | wp_step))
  refine codeAny_call_builtin FB.ga.plain F.entry_bexc_ga (exc_check X L hx hc (exc_entry X L hx hc ?_))
  repeat (any_goals (first | assumption | wp_step))
theorem kitx_exc (L : ExcLook K C) : KitX K (.ref x) (.ref C) (fun h => ∃ oe : Obj, h.get? x = some oe ∧ oe.cls = .ref C) where
  ty := fun _ _ _ ⟨_, h1, h2⟩ => exc_type h1 h2
  it := fun _ _ X _ => by
    obtain ⟨cd, e⟩ := L.is
    unfold clsIn at e
    split at e
    · rename_i c' d' cd' sl' ho
      intro A' Q' E' s' k q
      unfold isType loadHead
      exact wpAny_bind (wpAny_loadPart (k _ _ (X _ _ ho)) (wpAny_pure q))
    · cases e
  ne := fun h tp dd its n sl X htp => by
    obtain ⟨cd, hcl⟩ := L.is
    refine Bool.eq_false_iff.mpr fun q => ?_
    have e : C = tp := Value.ref.inj (beq_iff_eq.mp q)
    subst e
    unfold clsIn at hcl
    split at hcl
    · rename_i ho
      have z := (X _ _ ho).symm.trans htp
      cases z
    · cases hcl
  ca := fun X ⟨_, h1, h2⟩ k => exc_attr X L h1 h2 k
end
section
variable {X : Cx}
theorem call_isinstX : CallR X (.builtin "isinstance") (fun xs H Q => ∃ a C c cv b, xs = [.ref a, c] ∧ clsV c = some cv ∧ H a = some (excO a C) ∧ ExcLook X.K C ∧ kitOne X.K (.ref C) cv = some b ∧ Q (.bl b) H) := by
  intro pins s σ H xs us Q I r h
  obtain ⟨a, C, c, cv, b, rfl, hc, hH, L, hk, q⟩ := h
  obtain ⟨u, u', rfl, ru, ru'⟩ := vals2 r
  have e : u' = cv := by
    cases c with
    | ty n => cases ru'; cases hc; rfl
    | ref C => cases ru'; cases hc; rfl
    | _ => cases hc
  subst e
  cases ru
  obtain ⟨⟨oe, vs, h1, h2, _⟩, _⟩ := (show ObjOk X.prog X.w H s.heap a (excO a C) from I.hok a _ hH)
  exact kia_one (kitx_exc L) I.kIn ⟨oe, h1, h2⟩ hk (fun z => nomatch z) fun tk => ⟨.bl b, H, I.tok tk, rfl, q⟩
end
end L2
set_option Elab.async false
set_option linter.all false
set_option maxRecDepth 100000
set_option maxHeartbeats 4000000
namespace L2
open PySem PySem.Spec PyProof.Rows
mutual
/-- the value v bears the datum d -/
def Dat (H : Hp) : PyData → V → Prop
  | .none, v => v = .non
  | .bool b, v => v = .bl b
  | .int i, v => v = .int i
  | .str x, v => v = .str x
  | .list ds, v => ∃ a xs, v = .ref a ∧ H a = some (.lst xs) ∧ DatL H ds xs
  | .tuple ds, v => ∃ a xs, v = .ref a ∧ H a = some (.tup xs) ∧ DatL H ds xs
  | .dict _, _ => False
def DatL (H : Hp) : List PyData → List V → Prop
  | [], xs => xs = []
  | d :: ds, xs => ∃ y ys, xs = y :: ys ∧ Dat H d y ∧ DatL H ds ys
end
section
variable {H H' : Hp}
theorem DatL.nil : DatL H [] [] := by unfold DatL; rfl
theorem DatL.cons {d : PyData} {ds : List PyData} {x : V} {xs : List V} (h : Dat H d x) (t : DatL H ds xs) : DatL H (d :: ds) (x :: xs) := by
  unfold DatL
  exact ⟨x, xs, rfl, h, t⟩
theorem DatL.uncons {d : PyData} {ds : List PyData} {xs : List V} (h : DatL H (d :: ds) xs) : ∃ y ys, xs = y :: ys ∧ Dat H d y ∧ DatL H ds ys := by
  unfold DatL at h
  exact h
theorem DatL.unnil {xs : List V} (h : DatL H [] xs) : xs = [] := by
  unfold DatL at h
  exact h
theorem Dat.int {i : Int} : Dat H (.int i) (.int i) := by unfold Dat; rfl
theorem Dat.str {x : Str} : Dat H (.str x) (.str x) := by unfold Dat; rfl
theorem Dat.bool {b : Bool} : Dat H (.bool b) (.bl b) := by unfold Dat; rfl
theorem Dat.none : Dat H .none .non := by unfold Dat; rfl
theorem Dat.list {a : Addr} {xs : List V} {ds : List PyData} (h : H a = some (.lst xs)) (r : DatL H ds xs) : Dat H (.list ds) (.ref a) := by unfold Dat; exact ⟨a, xs, rfl, h, r⟩
theorem Dat.tuple {a : Addr} {xs : List V} {ds : List PyData} (h : H a = some (.tup xs)) (r : DatL H ds xs) : Dat H (.tuple ds) (.ref a) := by unfold Dat; exact ⟨a, xs, rfl, h, r⟩
theorem Dat.int_of {i : Int} {v : V} (h : Dat H (.int i) v) : v = .int i := by unfold Dat at h; exact h
theorem Dat.str_of {x : Str} {v : V} (h : Dat H (.str x) v) : v = .str x := by unfold Dat at h; exact h
theorem Dat.bool_of {b : Bool} {v : V} (h : Dat H (.bool b) v) : v = .bl b := by unfold Dat at h; exact h
theorem Dat.none_of {v : V} (h : Dat H .none v) : v = .non := by unfold Dat at h; exact h
theorem Dat.list_of {ds : List PyData} {v : V} (h : Dat H (.list ds) v) : ∃ a xs, v = .ref a ∧ H a = some (.lst xs) ∧ DatL H ds xs := by unfold Dat at h; exact h
theorem Dat.tuple_of {ds : List PyData} {v : V} (h : Dat H (.tuple ds) v) : ∃ a xs, v = .ref a ∧ H a = some (.tup xs) ∧ DatL H ds xs := by unfold Dat at h; exact h
mutual
theorem Dat.mono (e : Same H H') : ∀ {d : PyData} {v : V}, Dat H d v → Dat H' d v
  | .none, _, h => by rw [h.none_of]; exact Dat.none
  | .bool b, _, h => by rw [h.bool_of]; exact Dat.bool
  | .int i, _, h => by rw [h.int_of]; exact Dat.int
  | .str x, _, h => by rw [h.str_of]; exact Dat.str
  | .list ds, _, h => by
    obtain ⟨a, xs, rfl, q, r⟩ := h.list_of
    exact Dat.list (e _ _ q) (DatL.mono e r)
  | .tuple ds, _, h => by
    obtain ⟨a, xs, rfl, q, r⟩ := h.tuple_of
    exact Dat.tuple (e _ _ q) (DatL.mono e r)
  | .dict _, _, h => by unfold Dat at h; exact h.elim
theorem DatL.mono (e : Same H H') : ∀ {ds : List PyData} {xs : List V}, DatL H ds xs → DatL H' ds xs
  | [], _, h => by rw [h.unnil]; exact DatL.nil
  | d :: ds, _, h => by
    obtain ⟨y, ys, rfl, r, t⟩ := h.uncons
    exact DatL.cons (Dat.mono e r) (DatL.mono e t)
end
theorem DatL.length : ∀ {ds : List PyData} {xs : List V}, DatL H ds xs → ds.length = xs.length
  | [], _, h => by rw [h.unnil]; rfl
  | d :: ds, _, h => by
    obtain ⟨y, ys, rfl, r, t⟩ := h.uncons
    simp [DatL.length t]
theorem DatL.get : ∀ {ds : List PyData} {xs : List V} {i : Nat} {d : PyData}, DatL H ds xs → ds[i]? = some d → ∃ x, xs[i]? = some x ∧ Dat H d x
  | [], _, _, _, h, e => by simp at e
  | d :: ds, _, 0, _, h, e => by
    obtain ⟨y, ys, rfl, r, t⟩ := h.uncons
    simp at e
    subst e
    exact ⟨y, rfl, r⟩
  | d :: ds, _, i + 1, _, h, e => by
    obtain ⟨y, ys, rfl, r, t⟩ := h.uncons
    obtain ⟨x, q1, q2⟩ := DatL.get (i := i) t (by simpa using e)
    exact ⟨x, by simpa using q1, q2⟩
theorem DatL.append : ∀ {ds es : List PyData} {xs ys : List V}, DatL H ds xs → DatL H es ys → DatL H (ds ++ es) (xs ++ ys)
  | [], _, _, _, h, t => by rw [h.unnil]; exact t
  | d :: ds, _, _, _, h, t => by
    obtain ⟨y, ys, rfl, r, t'⟩ := h.uncons
    exact DatL.cons r (DatL.append t' t)
theorem DatL.take : ∀ {ds : List PyData} {xs : List V} (n : Nat), DatL H ds xs → DatL H (ds.take n) (xs.take n)
  | _, _, 0, _ => by simp; exact DatL.nil
  | [], _, n + 1, h => by rw [h.unnil]; simp; exact DatL.nil
  | d :: ds, _, n + 1, h => by
    obtain ⟨y, ys, rfl, r, t⟩ := h.uncons
    simp only [List.take_succ_cons]
    exact DatL.cons r (DatL.take n t)
theorem DatL.drop : ∀ {ds : List PyData} {xs : List V} (n : Nat), DatL H ds xs → DatL H (ds.drop n) (xs.drop n)
  | _, _, 0, h => by simpa using h
  | [], _, n + 1, h => by rw [h.unnil]; simp; exact DatL.nil
  | d :: ds, _, n + 1, h => by
    obtain ⟨y, ys, rfl, r, t⟩ := h.uncons
    simp only [List.drop_succ_cons]
    exact DatL.drop n t
theorem DatL.reverse : ∀ {ds : List PyData} {xs : List V}, DatL H ds xs → DatL H ds.reverse xs.reverse
  | [], _, h => by rw [h.unnil]; simp; exact DatL.nil
  | d :: ds, _, h => by
    obtain ⟨y, ys, rfl, r, t⟩ := h.uncons
    simp only [List.reverse_cons]
    exact DatL.append (DatL.reverse t) (DatL.cons r DatL.nil)
theorem DatL.ints : ∀ (ns : List Int), DatL H (ns.map .int) (ns.map .int)
  | [] => DatL.nil
  | n :: ns => DatL.cons Dat.int (DatL.ints ns)
theorem DatL.ints_of : ∀ {ns : List Int} {xs : List V}, DatL H (ns.map .int) xs → xs = ns.map .int
  | [], _, h => h.unnil
  | n :: ns, _, h => by
    obtain ⟨y, ys, rfl, r, t⟩ := DatL.uncons h
    rw [r.int_of, DatL.ints_of t]
    rfl
mutual
theorem Dat.rep {K : PySem.W.Frag} : ∀ {d : PyData} {v : V}, Dat H d v → Rep K H d v
  | .none, _, h => by rw [h.none_of]; exact Rep.none
  | .bool b, _, h => by rw [h.bool_of]; exact Rep.bool
  | .int i, _, h => by rw [h.int_of]; exact Rep.int
  | .str x, _, h => by rw [h.str_of]; exact Rep.str
  | .list ds, _, h => by
    obtain ⟨a, xs, rfl, q, r⟩ := h.list_of
    exact Rep.list (SqL.of q) (DatL.rep r)
  | .tuple ds, _, h => by
    obtain ⟨a, xs, rfl, q, r⟩ := h.tuple_of
    exact Rep.tuple (SqT.of q) (DatL.rep r)
  | .dict _, _, h => by unfold Dat at h; exact h.elim
theorem DatL.rep {K : PySem.W.Frag} : ∀ {ds : List PyData} {xs : List V}, DatL H ds xs → RepL K H ds xs
  | [], _, h => by rw [h.unnil]; exact RepL.nil
  | d :: ds, _, h => by
    obtain ⟨y, ys, rfl, r, t⟩ := h.uncons
    exact RepL.cons (Dat.rep r) (DatL.rep t)
end
theorem DatL.snoc {ds : List PyData} {xs : List V} {d : PyData} {x : V} (h : DatL H ds xs) (r : Dat H d x) : DatL H (ds ++ [d]) (xs ++ [x]) := h.append (.cons r .nil)
theorem Dat.ints {a : Addr} {ns : List Int} (h : H a = some (.lst (ns.map .int))) : Dat H (.list (ns.map .int)) (.ref a) := .list h (.ints ns)
theorem Dat.intsT {a : Addr} {ns : List Int} (h : H a = some (.tup (ns.map .int))) : Dat H (.tuple (ns.map .int)) (.ref a) := .tuple h (.ints ns)
theorem Dat.ints_of {v : V} {ns : List Int} (h : Dat H (.list (ns.map .int)) v) : ∃ a, v = .ref a ∧ H a = some (.lst (ns.map .int)) := by
  obtain ⟨a, xs, rfl, q, r⟩ := h.list_of
  rw [r.ints_of] at q
  exact ⟨a, rfl, q⟩
theorem Dat.intsT_of {v : V} {ns : List Int} (h : Dat H (.tuple (ns.map .int)) v) : ∃ a, v = .ref a ∧ H a = some (.tup (ns.map .int)) := by
  obtain ⟨a, xs, rfl, q, r⟩ := h.tuple_of
  rw [r.ints_of] at q
  exact ⟨a, rfl, q⟩
end
def mask (D : Addr) (H : Hp) : Hp := fun b => if b = D then none else H b
section
variable {H H' H'' : Hp} {D p : Addr} {o : HO}
theorem mask_ne (h : p ≠ D) : mask D H p = H p := by unfold mask; rw [if_neg h]
theorem mask_some {u : HO} (h : mask D H p = some u) : p ≠ D ∧ H p = some u := by
  unfold mask at h
  by_cases e : p = D
  · rw [if_pos e] at h; cases h
  · rw [if_neg e] at h; exact ⟨e, h⟩
theorem mask_same : Same (mask D H) H := fun _ _ h => (mask_some h).2
theorem mask_upd : mask D (upd H D o) = mask D H := by
  funext b
  unfold mask
  by_cases e : b = D
  · rw [if_pos e, if_pos e]
  · rw [if_neg e, if_neg e, upd_ne e]
theorem mask_mono (e : Same H H') : Same (mask D H) (mask D H') := fun b u h => by
  obtain ⟨h1, h2⟩ := mask_some h
  rw [mask_ne h1]
  exact e _ _ h2
theorem same_new (h : H p = none) : Same H (upd H p o) := fun b u q => by
  rw [upd_ne fun e => by subst e; rw [h] at q; cases q]
  exact q
theorem Same.put (e : Same H H') (h : H p = none) : Same H (upd H' p o) := fun b u q => by
  rw [upd_ne fun z => by subst z; rw [h] at q; cases q]
  exact e _ _ q
theorem ne_new {u : HO} (h : H p = none) (q : H D = some u) : p ≠ D := fun e => by subst e; rw [h] at q; cases q
end
section
variable {P : Program} {w : World} {K : PySem.W.Frag} {mg : Str → Option Value} {base : Heap}
theorem Fun.okF {x qual : Str} {st : Stmt} {f : Addr} {fd : FuncData} {N ps : List Str} {k : Nat} {sp : Sp} (F : Fun K x qual st f fd) (S : FnScope N ps (defScope st)) (len : ∀ vs H Q E, sp vs H Q E → vs.length = ps.length)
    (hbody : ∀ (cdv : Value) (A : Around) (outer : List Env) (s : Shared) (H : Hp) (vs : List V) (Q : VK) (E : XK), Room k (A.deeper (envOfC qual (defScope st) s.heap.objs.size f cdv)) → sp vs H Q E →
      ∃ t, PSs (cxF P w K mg base N qual (defScope st) f cdv A outer s H E) (defBody st) t ∧ t { nx := fun _ H' => Q .non H', rt := Q } (start N vs) H) : FnOk P w K mg base (CXF P w) (k + 1) f fd ps sp := by
  obtain ⟨oc, od, kV, doc, pm, an, cdv, ct, osl, rfl, lk, hcd⟩ := F.ex
  exact fn_of lk hcd S len fun A outer s H vs Q E hr hsp => hbody cdv A outer s H vs Q E hr hsp
end
theorem lc_in {J : It} {g : TG} {te : TE} {H1 : Hp} {σ0 : St} {QD : Addr → Hp → Prop} (S : St → Prop) (n : Nat) (d : Nat → PyData) (s0 : S σ0) (hgo : ∀ i H2, i < n → Same H1 H2 → J.go i H2) (hstop : ∀ H2, Same H1 H2 → J.stop n H2) (hn : n ≤ sizeLine)
    (step : ∀ D i x σ2 H2 H3 (N : V → St → Hp → Prop), i < n → Same H1 H2 → (∃ ys, H2 D = some (.lst ys)) → S σ2 → J.yld i H2 x H3 → (∀ y σ4 H6, S σ4 → Same H2 H6 → Dat (mask D H6) (d i) y → N y σ4 H6) → g x σ2 H3 fun σ4 H4 => te σ4 H4 fun y H6 => N y σ4 H6)
    (fin : ∀ D ys H2, H1 D = none → Same H1 H2 → H2 D = some (.lst ys) → DatL (mask D H2) ((List.range n).map d) ys → QD D H2) :
    ∀ D, H1 D = none → ∃ W : Nat → Nat → St → Hp → Prop, (∃ m, W 0 m σ0 (upd H1 D (.lst []))) ∧
      ∀ i m σ2 H2, W i m σ2 H2 → (J.stop i H2 ∧ QD D H2) ∨ (J.go i H2 ∧ ∀ x H3, J.yld i H2 x H3 → g x σ2 H3 fun σ4 H4 => tYes σ4 H4 fun b H5 =>
        if b = true then te σ4 H5 fun y H6 => ∃ xs, H6 D = some (.lst xs) ∧ xs.length < sizeLine ∧ ∃ m', m' < m ∧ W (i + 1) m' σ4 (upd H6 D (.lst (xs ++ [y]))) else ∃ m', m' < m ∧ W (i + 1) m' σ4 H5) := by
  intro D hD
  refine ⟨fun i m σ2 H2 => i + m = n ∧ S σ2 ∧ Same H1 H2 ∧ ∃ ys, H2 D = some (.lst ys) ∧ DatL (mask D H2) ((List.range i).map d) ys, ⟨n, by omega, s0, same_new hD, [], upd_same, .nil⟩, ?_⟩
  intro i m σ2 H2 ⟨hi, hs, e, ys, hy, dl⟩
  by_cases c : i < n
  · refine .inr ⟨hgo i H2 c e, fun x H3 yl => ?_⟩
    refine step D i x σ2 H2 H3 (fun y σ4 H6 => ∃ xs, H6 D = some (.lst xs) ∧ xs.length < sizeLine ∧ ∃ m', m' < m ∧ _) c e ⟨ys, hy⟩ hs yl fun y σ4 H6 s4 e6 dy => ?_
    have hl := dl.length
    rw [List.length_map, List.length_range] at hl
    refine ⟨ys, e6 _ _ hy, by omega, m - 1, by omega, by omega, s4, (e.trans e6).put hD, ys ++ [y], upd_same, ?_⟩
    rw [mask_upd, List.range_succ, List.map_append]
    exact (dl.mono (mask_mono e6)).snoc dy
  · have hin : i = n := by omega
    subst hin
    exact .inl ⟨hstop H2 e, fin D ys H2 hD e hy dl⟩
theorem for_in {J : It} {g : TG} {tb : TS} {D : Ends} {H1 : Hp} {σ0 : St} (n : Nat) (I : Nat → St → Hp → Prop) (i0 : I 0 σ0 H1) (hgo : ∀ i σ H, i < n → I i σ H → J.go i H) (hstop : ∀ σ H, I n σ H → J.stop n H)
    (step : ∀ i x σ2 H2 H3, i < n → I i σ2 H2 → J.yld i H2 x H3 → g x σ2 H3 fun σ4 H4 => tb { D with nx := I (i + 1), ct := I (i + 1), bk := D.nx } σ4 H4) (fin : ∀ σ H, I n σ H → D.nx σ H) :
    ∃ W : Nat → Nat → St → Hp → Prop, (∃ m, W 0 m σ0 H1) ∧ ∀ i m σ H, W i m σ H →
      (J.stop i H ∧ D.nx σ H) ∨ (J.go i H ∧ ∃ N : St → Hp → Prop, (∀ σ' H', N σ' H' → ∃ m', m' < m ∧ W (i + 1) m' σ' H') ∧ ∀ x H', J.yld i H x H' → g x σ H' fun σ2 H2 => tb { D with nx := N, ct := N, bk := D.nx } σ2 H2) := by
  refine ⟨fun i m σ H => i + m = n ∧ I i σ H, ⟨n, by omega, i0⟩, fun i m σ H ⟨hi, hI⟩ => ?_⟩
  by_cases c : i < n
  · refine .inr ⟨hgo i σ H c hI, I (i + 1), fun σ' H' q => ⟨m - 1, by omega, by omega, q⟩, fun x H' yl => step i x σ H H' c hI yl⟩
  · have hin : i = n := by omega
    subst hin
    exact .inl ⟨hstop σ H hI, fin σ H hI⟩
end L2
set_option Elab.async false
set_option linter.all false
set_option maxRecDepth 100000
set_option maxHeartbeats 4000000
namespace L2
open PySem PySem.Spec PyProof.Rows
theorem bt_bool : bootBuiltins ("bool" : Str) = some (Value.type "bool") := by rfl
theorem bt_int : bootBuiltins ("int" : Str) = some (Value.type "int") := by rfl
theorem bt_list : bootBuiltins ("list" : Str) = some (Value.type "list") := by rfl
theorem bt_tuple : bootBuiltins ("tuple" : Str) = some (Value.type "tuple") := by rfl
theorem bt_ValueError : bootBuiltins ("ValueError" : Str) = some (Value.type "ValueError") := by rfl
theorem bt_isinstance : bootBuiltins ("isinstance" : Str) = some (Value.builtin "isinstance") := by rfl
theorem bt_sum : bootBuiltins ("sum" : Str) = some (Value.builtin "sum") := by rfl
theorem bt_sorted : bootBuiltins ("sorted" : Str) = some (Value.builtin "sorted") := by rfl
theorem bt_abs : bootBuiltins ("abs" : Str) = some (Value.builtin "abs") := by rfl
theorem bt_max : bootBuiltins ("max" : Str) = some (Value.builtin "max") := by rfl
theorem bt_min : bootBuiltins ("min" : Str) = some (Value.builtin "min") := by rfl
theorem lookup_mem {α : Type} {x : Str} {a : α} : ∀ {l : List (Str × α)}, l.lookup x = some a → (x, a) ∈ l := fun h => PySem.mem_of_lookup h
theorem cn_of {X : Cx} {N : List Str} {js : List (Option Nat)} {scope : Scope} {cl : List (Str × Addr)} (hk : scope.kind = .function) (hc : closureFor scope X.env = pure cl) (h1 : ∀ y ∈ scope.names, y.2 ≠ .cell) (h2 : ∀ y ∈ scope.names, y.2 = .local → scope.names.lookup y.1 = some .local)
    (hl : js.length = N.length) (hs : ∀ y ∈ cl, X.env.cells.lookup y.1 = some y.2) (hf : ∀ y ∈ scope.names, y.2 = .free → (cl.lookup y.1).isSome = true)
    (hj : ∀ p ∈ N.zip js, ∀ j, p.2 = some j → X.N[j]? = some p.1 ∧ X.env.kindOf p.1 = some .cell ∧ scope.names.lookup p.1 = some .free)
    (hfn : X.env.scope.kind = .function) : CompNames X N js scope cl := by
  have rl : ∀ x k, (relabel scope X.env).names.lookup x = some k → (k = .cell ∨ k = .free) → ∃ y ∈ scope.names, y.1 = x ∧ y.2 = .free := fun x k q hk2 => by
    have m := lookup_mem q
    unfold relabel at m
    obtain ⟨⟨n, k2⟩, hm, e⟩ := List.mem_map.mp m
    have e2 := h1 _ hm
    replace e : (if (k2 == NameKind.free && X.env.scope.kind == ScopeKind.function && X.env.kindOf n == some NameKind.cell) = true then (n, NameKind.cell) else (n, k2)) = (x, k) := e
    by_cases hf2 : k2 = .free
    · subst hf2
      refine ⟨_, hm, ?_, rfl⟩
      split at e
      · exact congrArg Prod.fst e
      · exact congrArg Prod.fst e
    · exfalso
      have hfb : (k2 == NameKind.free) = false := by cases k2 <;> first | rfl | exact absurd rfl hf2
      rw [hfb, Bool.false_and, Bool.false_and, if_neg Bool.false_ne_true] at e
      cases e
      rcases hk2 with h | h
      · exact e2 h
      · exact hf2 h
  refine ⟨hk, hc, h1, h2, fun x c h => hs _ (lookup_mem h), fun x h => ?_, hl, fun i j x h hx => ?_⟩
  · have : ∃ y ∈ scope.names, y.1 = x ∧ y.2 = .free := by
      rcases h with h | h
      · exact rl x _ h (.inl rfl)
      · exact rl x _ h (.inr rfl)
    obtain ⟨y, hy, rfl, e⟩ := this
    exact Option.isSome_iff_exists.mp (hf y hy e)
  · obtain ⟨hi, rfl⟩ := List.getElem?_eq_some_iff.mp hx
    obtain ⟨hi2, hj2⟩ := List.getElem?_eq_some_iff.mp h
    obtain ⟨a, b, c⟩ := hj (N[i], js[i]) (by rw [← List.getElem_zip (l := N) (l' := js) (h := by rw [List.length_zip]; omega)]; exact List.getElem_mem _) j hj2
    refine ⟨a, ?_, .inl b⟩
    show (relabel scope X.env).names.lookup N[i] = some .cell ∨ (relabel scope X.env).names.lookup N[i] = some .free
    left
    have hb : X.env.scope.names.lookup N[i] = some .cell := b
    have gen : ∀ l : List (Str × NameKind), l.lookup N[i] = some .free → (l.map (fun x => match x with | (n, k) => if (k == NameKind.free && X.env.scope.kind == ScopeKind.function && X.env.kindOf n == some NameKind.cell) = true then (n, NameKind.cell) else (n, k))).lookup N[i] = some .cell := by
      intro l
      induction l with
      | nil => intro h; cases h
      | cons p r ih =>
        intro h
        obtain ⟨n, k⟩ := p
        rw [List.lookup_cons] at h
        rw [List.map_cons]
        by_cases e : (N[i] == n) = true
        · rw [e] at h
          cases h
          have en : N[i] = n := beq_iff_eq.mp e
          have hb2 : X.env.kindOf n = some NameKind.cell := by rw [← en]; exact b
          show List.lookup N[i] ((if (NameKind.free == NameKind.free && X.env.scope.kind == ScopeKind.function && X.env.kindOf n == some NameKind.cell) = true then (n, NameKind.cell) else (n, NameKind.free)) :: _) = _
          rw [hb2, hfn, if_pos (by decide), List.lookup_cons, e]
        · rw [Bool.not_eq_true] at e
          rw [e] at h
          have := ih h
          show List.lookup N[i] ((if (k == NameKind.free && X.env.scope.kind == ScopeKind.function && X.env.kindOf n == some NameKind.cell) = true then (n, NameKind.cell) else (n, k)) :: _) = _
          split
          · rw [List.lookup_cons, e]; exact this
          · rw [List.lookup_cons, e]; exact this
    exact gen _ c
theorem cn_none {X : Cx} {N : List Str} {js : List (Option Nat)} {scope : Scope} (hk : scope.kind = .function) (hc : closureFor scope X.env = pure []) (h1 : ∀ y ∈ scope.names, y.2 ≠ .cell) (h2 : ∀ y ∈ scope.names, y.2 = .local → scope.names.lookup y.1 = some .local)
    (h3 : ∀ y ∈ scope.names, y.2 ≠ .free) (hl : js.length = N.length) (hj : ∀ o ∈ js, o = none) (hfn : X.env.scope.kind = .function) : CompNames X N js scope [] :=
  cn_of hk hc h1 h2 hl (fun y hy => absurd hy (by simp)) (fun y hy e => absurd e (h3 y hy)) (fun p hp j h => by cases (hj _ (List.of_mem_zip hp).2).symm.trans h) hfn
section
variable {X : Cx} {K : PySem.W.Frag}
theorem ix_listK (h : X.K = K) : IxR X (rIxL K) := by subst h; exact ix_list
theorem mt_indexK (h : X.K = K) : MtR X "list.index" (rIndex K) := by subst h; exact mt_index
theorem pg_tupK {es : List Expr} {k : Nat} {t : TGs} {n : Nat} {pos : Pos} (h : X.K = K) (hc : X.calm = true) (hp : PGs X es t) (hn : (assignEach es X.env).length = n) (hst : (assignEach es X.env).findIdx? (·.1) = none) : PG X (.Tuple es k pos) (gTup K n t) := by
  subst h
  exact pg_tup hc hp hn hst
variable {o e : Expr} {es : List Expr} {to : TE} {t : TA} {name : Str} {apos cpos : Pos} {T id : String} {r : V → List V → Hp → VK → Prop}
theorem pe_bmK (h : X.K = K) (pa : PlainAttrs T) (slot : Slot T name id) (hty : typeOf (.builtin id) = pure (.type "method_descriptor")) (hm : MtR X id r) (ho : PE X o to) (ha : PA X (e :: es) t)
    (hbase : attributeBase o name X.env (eval o X.env) = eval o X.env)
    (hfew : ((backTo cpos (starEach (e :: es) X.env)).all (fun x => !x.1) && (backToKw cpos (keywordEach [] X.env)).all (fun x => x.1.isSome)
      && decide ((e :: es).length + ([] : List Keyword).length + (if ([] : List Keyword).isEmpty then 0 else 1) < 30)) = true)
    (hline : (apos.endLine == cpos.line) = true) (hs : starEach (e :: es) X.env = (false, eval e X.env) :: starEach es X.env) (hplain : (backTo cpos (starEach es X.env)).any (·.1) = false) :
    PE X (.Call (.Attribute o name apos) (e :: es) [] cpos) (tBM K T r to t) := by
  subst h
  exact pe_bm pa slot hty hm ho ha hbase hfew hline hs hplain
end
end L2
set_option Elab.async false
set_option linter.all false
set_option maxRecDepth 100000
set_option maxHeartbeats 4000000
namespace My
open PySem L2 PySem.Spec PyProof.Rows
structure Er where
  LayError : Addr
  BadWeb : Addr
  BadOrder : Addr
  BadSpot : Addr
  BadKind : Addr
  BadText : Addr
variable {A : Er}
def tieD (t : List Int) : PyData := .tuple (t.map .int)
def webD (n : Int) (ts : List (List Int)) : PyData := .tuple [.int n, .list (ts.map tieD)]
def ordD (ns : List Int) : PyData := .list (ns.map .int)
def small (k : Int) : Prop := k.natAbs < 10 ^ 20
structure WebIn (n : Int) (ts : List (List Int)) : Prop where
  n : small n
  len : ts.length ≤ 1000
  tie : ∀ t ∈ ts, t.length ≤ 100 ∧ ∀ k ∈ t, small k
structure OrdIn (ns : List Int) : Prop where
  len : ns.length ≤ 1000
  one : ∀ k ∈ ns, small k
theorem web_of {H : Hp} {n : Int} {ts : List (List Int)} {v : V} (h : Dat H (webD n ts) v) : ∃ a l xs, v = .ref a ∧ H a = some (.tup [.int n, .ref l]) ∧ H l = some (.lst xs) ∧ DatL H (ts.map tieD) xs := by
  obtain ⟨a, xs, rfl, q, r⟩ := h.tuple_of
  obtain ⟨y, ys, rfl, r1, t1⟩ := r.uncons
  obtain ⟨z, zs, rfl, r2, t2⟩ := t1.uncons
  obtain ⟨l, xs, rfl, q2, r3⟩ := r2.list_of
  rw [r1.int_of, t2.unnil] at q
  exact ⟨a, l, xs, rfl, q, q2, r3⟩
theorem web_mk {H : Hp} {n : Int} {ts : List (List Int)} {a l : Addr} {xs : List V} (h1 : H a = some (.tup [.int n, .ref l])) (h2 : H l = some (.lst xs)) (h3 : DatL H (ts.map tieD) xs) : Dat H (webD n ts) (.ref a) :=
  .tuple h1 (.cons .int (.cons (.list h2 h3) .nil))
theorem tie_at {H : Hp} {ts : List (List Int)} {xs : List V} {i : Nat} {t : List Int} (h : DatL H (ts.map tieD) xs) (e : ts[i]? = some t) : ∃ a, xs[i]? = some (.ref a) ∧ H a = some (.tup (t.map .int)) := by
  obtain ⟨x, h1, h2⟩ := h.get (i := i) (d := tieD t) (by rw [List.getElem?_map, e]; rfl)
  obtain ⟨a, rfl, q⟩ := Dat.intsT_of h2
  exact ⟨a, h1, q⟩
def spWithin : Sp := fun vs H Q _ => ∃ v a b : Int, vs = [.int v, .int a, .int b] ∧ Q (.bl (decide (a ≤ v) && decide (v ≤ b))) H
def tieOk (n : Int) : List Int → Bool
  | [a, b, c] => (decide (0 ≤ b) && decide (b ≤ n - 1)) && ((decide (0 ≤ a) && decide (a ≤ b - 1)) && (decide (1 ≤ c) && decide (c ≤ 100)))
  | _ => false
theorem tieOk_eq (n a b c : Int) : tieOk n [a, b, c] = ((decide (0 ≤ b) && decide (b ≤ n - 1)) && ((decide (0 ≤ a) && decide (a ≤ b - 1)) && (decide (1 ≤ c) && decide (c ≤ 100)))) := rfl
theorem tieOk_three {n : Int} {t : List Int} (h : tieOk n t = true) : ∃ a b c, t = [a, b, c] ∧ 0 ≤ b ∧ b ≤ n - 1 ∧ 0 ≤ a ∧ a ≤ b - 1 ∧ 1 ≤ c ∧ c ≤ 100 := by
  unfold tieOk at h
  split at h
  · rename_i a b c
    simp only [Bool.and_eq_true, decide_eq_true_eq] at h
    obtain ⟨⟨h1, h2⟩, ⟨h3, h4⟩, h5, h6⟩ := h
    exact ⟨a, b, c, rfl, h1, h2, h3, h4, h5, h6⟩
  · cases h
def spTie : Sp := fun vs H Q _ => ∃ (a : Addr) (t : List Int) (n : Int), vs = [.ref a, .int n] ∧ H a = some (.tup (t.map .int)) ∧ Q (.bl (tieOk n t)) H
def tiesOk (n : Int) : List Int → List (List Int) → Bool
  | _, [] => true
  | b, t :: r => tieOk n t && (!HT.lexLe (t.take 2) b && tiesOk n (t.take 2) r)
def spTies (A : Er) : Sp := fun vs H Q E => ∃ (n : Int) (l : Addr) (xs : List V) (ts : List (List Int)), vs = [.int n, .ref l] ∧ H l = some (.lst xs) ∧ DatL H (ts.map tieD) xs ∧ WebIn n ts ∧
  (tiesOk n [-1, -1] ts = true → ∀ H', Same H H' → Q .non H') ∧ (tiesOk n [-1, -1] ts = false → ∀ H', Same H H' → E (.ref A.BadWeb) none H')
def webOk (n : Int) (ts : List (List Int)) : Bool := (decide (0 ≤ n) && decide (n ≤ 8)) && tiesOk n [-1, -1] ts
def spWeb (A : Er) : Sp := fun vs H Q E => ∃ (v : V) (n : Int) (ts : List (List Int)), vs = [v] ∧ Dat H (webD n ts) v ∧ WebIn n ts ∧
  (webOk n ts = true → ∀ H', Same H H' → Q .non H') ∧ (webOk n ts = false → ∀ H', Same H H' → E (.ref A.BadWeb) none H')
def ordOk (n : Int) (ns : List Int) : Bool := decide ((ns.length : Int) = n) && (ns.all (fun k => decide (0 ≤ k) && decide (k ≤ n - 1)) && decide ns.Nodup)
theorem nodup_len : ∀ {l m : List Int}, l.Nodup → (∀ x ∈ l, x ∈ m) → l.length ≤ m.length
  | [], _, _, _ => Nat.zero_le _
  | a :: r, m, h, s => by
    obtain ⟨h1, h2⟩ := List.nodup_cons.mp h
    have ha : a ∈ m := s a (List.mem_cons.mpr (.inl rfl))
    have q := nodup_len (m := m.erase a) h2 fun x hx => (List.mem_erase_of_ne fun z => h1 (by rw [← z]; exact hx)).mpr (s x (List.mem_cons.mpr (.inr hx)))
    rw [List.length_erase_of_mem ha] at q
    have : 0 < m.length := List.length_pos_of_mem ha
    rw [List.length_cons]
    omega
theorem ordOk_of {n : Int} {ns : List Int} (h : ordOk n ns = true) : (ns.length : Int) = n ∧ (∀ k ∈ ns, 0 ≤ k ∧ k ≤ n - 1) ∧ ns.Nodup := by
  unfold ordOk at h
  rw [Bool.and_eq_true, Bool.and_eq_true] at h
  obtain ⟨h1, h2, h3⟩ := h
  refine ⟨of_decide_eq_true h1, fun k hk => ?_, of_decide_eq_true h3⟩
  have := List.all_eq_true.mp h2 k hk
  rw [Bool.and_eq_true] at this
  exact ⟨of_decide_eq_true this.1, of_decide_eq_true this.2⟩
theorem ordOk_mk {n : Int} {ns : List Int} (h1 : (ns.length : Int) = n) (h2 : ∀ k ∈ ns, 0 ≤ k ∧ k ≤ n - 1) (h3 : ns.Nodup) : ordOk n ns = true := by
  unfold ordOk
  rw [decide_eq_true h1, decide_eq_true h3, Bool.true_and, Bool.and_true]
  exact List.all_eq_true.mpr fun k hk => by rw [decide_eq_true (h2 k hk).1, decide_eq_true (h2 k hk).2]; rfl
def upto (n : Nat) : List Int := (List.range n).map fun i : Nat => (i : Int)
theorem upto_mem {n : Nat} {k : Int} : k ∈ upto n ↔ 0 ≤ k ∧ k < n := by
  unfold upto
  rw [List.mem_map]
  constructor
  · rintro ⟨i, hi, rfl⟩
    have := List.mem_range.mp hi
    omega
  · rintro ⟨h1, h2⟩
    exact ⟨k.toNat, List.mem_range.mpr (by omega), by omega⟩
theorem upto_len {n : Nat} : (upto n).length = n := by unfold upto; rw [List.length_map, List.length_range]
theorem ord_all {n : Int} {ns : List Int} (h : ordOk n ns = true) {k : Int} (h0 : 0 ≤ k) (h1 : k ≤ n - 1) : k ∈ ns := by
  obtain ⟨hl, hk, hn⟩ := ordOk_of h
  by_cases c : k ∈ ns
  · exact c
  · have q := nodup_len (l := k :: ns) (m := upto ns.length) (List.nodup_cons.mpr ⟨c, hn⟩) fun x hx => by
      rcases List.mem_cons.mp hx with rfl | hx
      · exact upto_mem.mpr ⟨h0, by omega⟩
      · exact upto_mem.mpr ⟨(hk x hx).1, by have := (hk x hx).2; omega⟩
    rw [upto_len, List.length_cons] at q
    omega
theorem tiesOk_all {n : Int} : ∀ {ts : List (List Int)} {b : List Int}, tiesOk n b ts = true → ∀ t ∈ ts, tieOk n t = true
  | [], _, _, t, ht => by simp at ht
  | a :: r, b, h, t, ht => by
    unfold tiesOk at h
    rw [Bool.and_eq_true, Bool.and_eq_true] at h
    rcases List.mem_cons.mp ht with rfl | ht
    · exact h.1
    · exact tiesOk_all h.2.2 t ht
theorem webOk_of {n : Int} {ts : List (List Int)} (h : webOk n ts = true) : 0 ≤ n ∧ n ≤ 8 ∧ ∀ t ∈ ts, ∃ a b c, t = [a, b, c] ∧ 0 ≤ b ∧ b ≤ n - 1 ∧ 0 ≤ a ∧ a ≤ b - 1 ∧ 1 ≤ c ∧ c ≤ 100 := by
  unfold webOk at h
  rw [Bool.and_eq_true, Bool.and_eq_true] at h
  exact ⟨of_decide_eq_true h.1.1, of_decide_eq_true h.1.2, fun t ht => tieOk_three (tiesOk_all h.2 t ht)⟩
def idx (ns : List Int) (k : Int) : Nat := ns.idxOf k
theorem idx_lt {ns : List Int} {k : Int} (h : k ∈ ns) : idx ns k < ns.length := List.idxOf_lt_length_of_mem h
theorem idx_cons {a k : Int} {r : List Int} (e : ¬ a = k) : idx (a :: r) k = idx r k + 1 := by
  unfold idx
  rw [List.idxOf_cons]
  have : (a == k) = false := by simpa using e
  rw [this]
  rfl
def absI (d : Int) : Int := if d < 0 then -d else d
def tieLen (ns : List Int) : List Int → Int
  | [a, b, _] => absI ((idx ns a : Int) - (idx ns b : Int))
  | _ => 0
def lens (ns : List Int) (ts : List (List Int)) : List Int := ts.map (tieLen ns)
theorem index_of {ns : List Int} {k : Int} (h : k ∈ ns) : (ns.map V.int).findIdx? (fun z => eqV z (.int k)) = some (idx ns k) := by
  induction ns with
  | nil => simp at h
  | cons a r ih =>
    rw [List.map_cons, List.findIdx?_cons]
    by_cases e : a = k
    · subst e
      have : eqV (.int a) (.int a) = true := by simp [eqV]
      rw [this]
      simp [idx]
    · have e2 : eqV (.int a) (.int k) = false := by simp [eqV, e]
      rw [e2, ih ((List.mem_cons.mp h).resolve_left fun z => e z.symm)]
      rw [idx_cons e]
      rfl
def over1 (ns : List Int) (g : Nat) : List Int → Int
  | [a, b, c] => if min (idx ns a) (idx ns b) ≤ g ∧ g < max (idx ns a) (idx ns b) then c else 0
  | _ => 0
def gapAt (ns : List Int) (ts : List (List Int)) (g : Nat) : Int := (ts.map (over1 ns g)).sum
def gapsL (m : Nat) (ns : List Int) (ts : List (List Int)) : List Int := (List.range m).map (gapAt ns ts)
theorem sum_add {α : Type} (f g : α → Int) : ∀ l : List α, (l.map fun x => f x + g x).sum = (l.map f).sum + (l.map g).sum
  | [] => rfl
  | a :: r => by
    simp only [List.map_cons, List.sum_cons]
    rw [sum_add f g r]
    omega
theorem sum_zero {α : Type} : ∀ l : List α, (l.map fun _ => (0 : Int)).sum = 0
  | [] => rfl
  | a :: r => by rw [List.map_cons, List.sum_cons, sum_zero r]; rfl
theorem sum_span {lo hi : Nat} {c : Int} (h : lo ≤ hi) : ∀ {m : Nat}, hi ≤ m → ((List.range m).map fun g => if lo ≤ g ∧ g < hi then c else 0).sum = c * ((hi : Int) - lo) := by
  have key : ∀ m : Nat, ((List.range m).map fun g => if lo ≤ g ∧ g < hi then c else 0).sum = c * ((min m hi - lo : Nat) : Int) := by
    intro m
    induction m with
    | zero => simp
    | succ m ih =>
      rw [List.range_succ, List.map_append, List.sum_append, ih]
      simp only [List.map_cons, List.map_nil, List.sum_cons, List.sum_nil, Int.add_zero]
      by_cases e : lo ≤ m ∧ m < hi
      · rw [if_pos e]
        have h1 : (min (m + 1) hi - lo : Nat) = (min m hi - lo : Nat) + 1 := by omega
        rw [h1, Int.natCast_add, Int.mul_add]
        simp
      · rw [if_neg e]
        have h1 : (min (m + 1) hi - lo : Nat) = (min m hi - lo : Nat) := by omega
        rw [h1, Int.add_zero]
  intro m hm
  rw [key m]
  have : ((min m hi - lo : Nat) : Int) = (hi : Int) - lo := by omega
  rw [this]
def weigh (ns : List Int) : List Int → Int
  | [a, b, c] => c * tieLen ns [a, b, c]
  | _ => 0
def tot (ns : List Int) (ts : List (List Int)) : Int := (ts.map (weigh ns)).sum
theorem over_sum {n : Int} {ns : List Int} {t : List Int} (ho : ordOk n ns = true) (ht : tieOk n t = true) : ((List.range (n - 1).toNat).map fun g => over1 ns g t).sum = weigh ns t := by
  obtain ⟨a, b, c, rfl, h1, h2, h3, h4, h5, h6⟩ := tieOk_three ht
  obtain ⟨hl, hk, hn⟩ := ordOk_of ho
  have ia := idx_lt (ord_all ho h3 (by omega))
  have ib := idx_lt (ord_all ho h1 h2)
  show ((List.range (n - 1).toNat).map fun g => if min (idx ns a) (idx ns b) ≤ g ∧ g < max (idx ns a) (idx ns b) then c else 0).sum = c * absI ((idx ns a : Int) - (idx ns b : Int))
  rw [sum_span (by omega) (by omega)]
  congr 1
  unfold absI
  split <;> omega
theorem gaps_sum {n : Int} {ns : List Int} (ho : ordOk n ns = true) : ∀ {ts : List (List Int)}, (∀ t ∈ ts, tieOk n t = true) → (gapsL (n - 1).toNat ns ts).sum = tot ns ts
  | [], _ => by
    unfold gapsL tot
    exact sum_zero _
  | t :: r, h => by
    have q := gaps_sum ho (ts := r) fun x hx => h x (List.mem_cons.mpr (.inr hx))
    have e : gapsL (n - 1).toNat ns (t :: r) = (List.range (n - 1).toNat).map fun g => over1 ns g t + gapAt ns r g := by
      unfold gapsL
      refine List.map_congr_left fun g _ => ?_
      unfold gapAt
      rw [List.map_cons, List.sum_cons]
    rw [e, sum_add, over_sum ho (h t (List.mem_cons.mpr (.inl rfl)))]
    unfold gapsL at q
    rw [q]
    unfold tot
    rw [List.map_cons, List.sum_cons]
theorem map_range_get {α β : Type} (f : α → β) (z : α) : ∀ ts : List α, (List.range ts.length).map (fun i => f (ts.getD i z)) = ts.map f := by
  intro ts
  apply List.ext_getElem
  · simp
  · intro i h1 h2
    have h3 : i < ts.length := by simpa using h2
    simp [List.getD_eq_getElem?_getD, List.getElem?_eq_getElem h3]
theorem lens_nonneg {ns : List Int} {ts : List (List Int)} : ∀ x ∈ lens ns ts, 0 ≤ x := by
  intro x hx
  obtain ⟨t, _, rfl⟩ := List.mem_map.mp hx
  unfold tieLen
  split
  · unfold absI
    split <;> omega
  · exact Int.le_refl 0
theorem lens_len {ns : List Int} {ts : List (List Int)} : (lens ns ts).length = ts.length := List.length_map _
def maxOf (ns : List Int) : Int := ns.foldr max 0
theorem isMax_of {ns : List Int} (h : ∀ x ∈ ns, 0 ≤ x) : IsMax 0 ns (maxOf ns) := by
  induction ns with
  | nil => exact .inl ⟨rfl, rfl⟩
  | cons a r ih =>
    right
    have ih2 := ih fun x hx => h x (List.mem_cons.mpr (.inr hx))
    have ha := h a (List.mem_cons.mpr (.inl rfl))
    show max a (maxOf r) ∈ a :: r ∧ ∀ x ∈ a :: r, x ≤ max a (maxOf r)
    rcases ih2 with ⟨rfl, e⟩ | ⟨m, l⟩
    · refine ⟨by rw [e]; simp; omega, fun x hx => ?_⟩
      have : x = a := by simpa using hx
      omega
    · constructor
      · by_cases c : a ≤ maxOf r
        · rw [Int.max_eq_right c]; exact List.mem_cons.mpr (.inr m)
        · rw [Int.max_eq_left (by omega)]; exact List.mem_cons.mpr (.inl rfl)
      · intro x hx
        rcases List.mem_cons.mp hx with rfl | hx
        · omega
        · have := l x hx; omega
theorem isMax_zero {ns : List Int} (h : ∀ x ∈ ns, 0 ≤ x) {M : Int} (q : IsMax 0 ([0] ++ ns) M) : M = maxOf ns := by
  refine q.uniq ?_
  right
  rcases isMax_of h with ⟨rfl, e⟩ | ⟨m, l⟩
  · rw [e]; simp
  · exact ⟨List.mem_append.mpr (.inr m), fun a ha => by
      rcases List.mem_append.mp ha with z | z
      · have : a = 0 := by simpa using z
        have := h _ m
        omega
      · exact l a z⟩
theorem gaps_nonneg {m : Nat} {n : Int} {ns : List Int} {ts : List (List Int)} (h : ∀ t ∈ ts, tieOk n t = true) : ∀ x ∈ gapsL m ns ts, 0 ≤ x := by
  intro x hx
  obtain ⟨g, _, rfl⟩ := List.mem_map.mp hx
  unfold gapAt
  have key : ∀ l : List Int, (∀ y ∈ l, 0 ≤ y) → 0 ≤ l.sum := by
    intro l
    induction l with
    | nil => intro _; exact Int.le_refl 0
    | cons a r ih =>
      intro q
      rw [List.sum_cons]
      have := ih fun y hy => q y (List.mem_cons.mpr (.inr hy))
      have := q a (List.mem_cons.mpr (.inl rfl))
      omega
  refine key _ fun y hy => ?_
  obtain ⟨t, ht, rfl⟩ := List.mem_map.mp hy
  obtain ⟨a, b, c, rfl, h1, h2, h3, h4, h5, h6⟩ := tieOk_three (h t ht)
  show 0 ≤ if min (idx ns a) (idx ns b) ≤ g ∧ g < max (idx ns a) (idx ns b) then c else 0
  split <;> omega
structure Both (A : Er) (H : Hp) (v : V) (l : Addr) (n : Int) (ts : List (List Int)) (ns : List Int) (E : XK) : Prop where
  web : Dat H (webD n ts) v
  ord : H l = some (.lst (ns.map .int))
  win : WebIn n ts
  oin : OrdIn ns
  ew : webOk n ts = false → ∀ H', Same H H' → E (.ref A.BadWeb) none H'
  eo : webOk n ts = true → ordOk n ns = false → ∀ H', Same H H' → E (.ref A.BadOrder) none H'
theorem Both.later {H H1 : Hp} {v : V} {l : Addr} {n : Int} {ts : List (List Int)} {ns : List Int} {E : XK} (b : Both A H v l n ts ns E) (e : Same H H1) : Both A H1 v l n ts ns E :=
  ⟨b.web.mono e, e _ _ b.ord, b.win, b.oin, fun h H' e' => b.ew h H' (e.trans e'), fun h1 h2 H' e' => b.eo h1 h2 H' (e.trans e')⟩
theorem gapAt_snoc {ns : List Int} {ts : List (List Int)} {t : List Int} {g : Nat} : gapAt ns (ts ++ [t]) g = gapAt ns ts g + over1 ns g t := by
  unfold gapAt
  rw [List.map_append, List.sum_append]
  simp
def longF (_ : Int) (ns : List Int) (ts : List (List Int)) : Int := maxOf (lens ns ts)
def mostF (n : Int) (ns : List Int) (ts : List (List Int)) : Int := maxOf (gapsL (n - 1).toNat ns ts)
def totF (_ : Int) (ns : List Int) (ts : List (List Int)) : Int := tot ns ts
theorem ite_str {a b : Str} {X Y : Prop} (h1 : a = b → X) (h2 : a ≠ b → Y) : if decide (V.str a = V.str b) = true then X else Y := by
  by_cases c : a = b
  · rw [decide_eq_true (congrArg V.str c)]
    exact iteT (h1 c)
  · rw [decide_eq_false fun z => c (V.str.inj z)]
    exact iteF (h2 c)
def spWhole : Sp := fun vs H Q _ => ∃ x, vs = [x] ∧ ((∃ i, x = .int i ∧ Q (.bl true) H) ∨ ∃ a xs, x = .ref a ∧ H a = some (.tup xs) ∧ Q (.bl false) H)
def isKind (kd : Str) : Prop := kd = "longest" ∨ kd = "most" ∨ kd = "total"
instance {kd : Str} : Decidable (isKind kd) := by unfold isKind; infer_instance
def cellI (ns : List Int) (k : Int) : Int := if ns = [] then 0 else ns.getD (k % (ns.length : Int)).toNat 0
def mixI (ns : List Int) (k : Int) : Int := (((cellI ns k + 104729 * (k + 1)) % 4294967291 * 48271 % 4294967279) / 64 * 69621 + (cellI ns k + 104729 * (k + 1)) % 4294967291 * 48271 % 4294967279) % 4294967231
theorem mixI_nonneg (ns : List Int) (k : Int) : 0 ≤ mixI ns k := Int.emod_nonneg _ (by decide)
theorem cell_at {ns : List Int} (h : ns ≠ []) (i : Int) : atI (ns.map V.int) (i % ((ns.map V.int).length : Int)) = some (.int (cellI ns i)) := by
  rw [List.length_map]
  have hl : 0 < ns.length := List.length_pos_iff.mpr h
  have h0 : 0 ≤ i % (ns.length : Int) := Int.emod_nonneg _ (by omega)
  have h1 : i % (ns.length : Int) < ns.length := Int.emod_lt_of_pos _ (by omega)
  have e : i % (ns.length : Int) = (((i % (ns.length : Int)).toNat : Nat) : Int) := by omega
  unfold cellI
  rw [if_neg h]
  have hj : (i % (ns.length : Int)).toNat < ns.length := by omega
  generalize (i % (ns.length : Int)).toNat = j at e hj ⊢
  rw [e]
  apply atI_nat
  rw [List.getElem?_map, List.getD_eq_getElem?_getD, List.getElem?_eq_getElem hj]
  rfl
def spCell (K : PySem.W.Frag) : Sp := fun vs H Q _ => ∃ (a : Addr) (ns : List Int) (k : Int), vs = [.ref a, .int k] ∧ SqL K H a (ns.map .int) ∧ Q (.int (cellI ns k)) H
def spMix (K : PySem.W.Frag) : Sp := fun vs H Q _ => ∃ (a : Addr) (ns : List Int) (k : Int), vs = [.ref a, .int k] ∧ SqL K H a (ns.map .int) ∧ Q (.int (mixI ns k)) H
theorem tiesOk_snoc {n : Int} {t : List Int} (h1 : tieOk n t = true) : ∀ {ts : List (List Int)} {b : List Int}, tiesOk n b ts = true → HT.lexLe (t.take 2) b = false → (∀ s ∈ ts, HT.lexLe (t.take 2) (s.take 2) = false) → tiesOk n b (ts ++ [t]) = true
  | [], b, _, h2, _ => by
    show tiesOk n b [t] = true
    unfold tiesOk
    rw [h1, h2]
    rfl
  | s :: r, b, h, h2, h3 => by
    unfold tiesOk at h
    rw [Bool.and_eq_true, Bool.and_eq_true] at h
    rw [List.cons_append]
    unfold tiesOk
    rw [h.1, h.2.1, tiesOk_snoc h1 h.2.2 (h3 s List.mem_cons_self) fun x hx => h3 x (List.mem_cons_of_mem _ hx)]
    rfl
theorem lexLe2 {a b c d : Int} : HT.lexLe [a, b] [c, d] = decide (a < c ∨ a = c ∧ b ≤ d) := by
  rw [HT.lexLe_cons, HT.lexLe_cons]
  by_cases e : a = c
  · rw [if_pos e]
    by_cases e2 : b = d
    · rw [if_pos e2, HT.lexLe_nil_nil]; exact (decide_eq_true (by omega)).symm
    · rw [if_neg e2]; exact decide_eq_decide.mpr (by omega)
  · rw [if_neg e]; exact decide_eq_decide.mpr (by omega)
structure TW (n i j : Int) (ts : List (List Int)) : Prop where
  ok : tiesOk n [-1, -1] ts = true
  lt : ∀ s ∈ ts, ∃ a b c, s = [a, b, c] ∧ (a < i ∨ a = i ∧ b < j)
theorem TW.later {n i j i' j' : Int} {ts : List (List Int)} (h : TW n i j ts) (e : i < i' ∨ i = i' ∧ j ≤ j') : TW n i' j' ts :=
  ⟨h.ok, fun s hs => by
    obtain ⟨a, b, c, h1, h2⟩ := h.lt s hs
    exact ⟨a, b, c, h1, by omega⟩⟩
theorem TW.add {n i j w : Int} {ts : List (List Int)} (h : TW n i j ts) (h0 : 0 ≤ i) (h1 : i < j) (h2 : j < n) (h3 : 1 ≤ w) (h4 : w ≤ 100) : TW n i (j + 1) (ts ++ [[i, j, w]]) := by
  refine ⟨tiesOk_snoc ?_ h.ok ?_ fun s hs => ?_, fun s hs => ?_⟩
  · rw [tieOk_eq]
    simp only [Bool.and_eq_true, decide_eq_true_eq]
    omega
  · show HT.lexLe [i, j] [-1, -1] = false
    rw [lexLe2]
    exact decide_eq_false (by omega)
  · obtain ⟨a, b, c, rfl, e⟩ := h.lt s hs
    show HT.lexLe [i, j] [a, b] = false
    rw [lexLe2]
    exact decide_eq_false (by omega)
  · rcases List.mem_append.mp hs with z | z
    · obtain ⟨a, b, c, e1, e2⟩ := h.lt s z
      exact ⟨a, b, c, e1, by omega⟩
    · exact ⟨i, j, w, by simpa using z, by omega⟩
theorem TW.nil {n : Int} : TW n 0 0 [] := ⟨rfl, fun s hs => by simp at hs⟩
theorem weights_at {i : Int} (h0 : 0 ≤ i) (h1 : i < 6) : ∃ w : Int, atI [V.int 1, V.int 1, V.int 2, V.int 3, V.int 7, V.int 100] i = some (.int w) ∧ 1 ≤ w ∧ w ≤ 100 := by
  have : i = 0 ∨ i = 1 ∨ i = 2 ∨ i = 3 ∨ i = 4 ∨ i = 5 := by omega
  rcases this with rfl | rfl | rfl | rfl | rfl | rfl
  · exact ⟨1, rfl, by decide, by decide⟩
  · exact ⟨1, rfl, by decide, by decide⟩
  · exact ⟨2, rfl, by decide, by decide⟩
  · exact ⟨3, rfl, by decide, by decide⟩
  · exact ⟨7, rfl, by decide, by decide⟩
  · exact ⟨100, rfl, by decide, by decide⟩
theorem webIn_of {n : Int} {ts : List (List Int)} (h : webOk n ts = true) (hl : ts.length ≤ 1000) : WebIn n ts := by
  obtain ⟨h0, h8, ht⟩ := webOk_of h
  refine ⟨by unfold small; omega, hl, fun t hm => ?_⟩
  obtain ⟨a, b, c, rfl, _⟩ := ht t hm
  refine ⟨by show 3 ≤ 100; decide, fun k hk => ?_⟩
  unfold small
  simp only [List.mem_cons, List.not_mem_nil, or_false] at hk
  rcases hk with rfl | rfl | rfl <;> omega
def spLWeb (K : PySem.W.Frag) : Sp := fun vs H Q _ => ∃ (a : Addr) (ns : List Int) (k m : Int), vs = [.ref a, .int k, .int m] ∧ SqL K H a (ns.map .int) ∧ 0 ≤ m ∧ m ≤ 8 ∧
  ∀ v H' n ts, Same H H' → Dat H' (webD n ts) v → webOk n ts = true → WebIn n ts → n ≤ m → ts.length ≤ 64 → Q v H'
theorem ordOk_perm {n : Nat} {os : List Int} (h : os.Perm (upto n)) : ordOk n os = true := by
  refine ordOk_mk (by rw [h.length_eq, upto_len]) (fun k hk => ?_) (h.nodup_iff.mpr ?_)
  · have := upto_mem.mp (h.mem_iff.mp hk)
    omega
  · unfold upto List.Nodup
    rw [List.pairwise_map]
    exact (List.pairwise_lt_range (n := n)).imp fun {a b} h => by omega
def spLOrd (K : PySem.W.Frag) : Sp := fun vs H Q _ => ∃ (a : Addr) (ns : List Int) (k m : Int), vs = [.ref a, .int k, .int m] ∧ SqL K H a (ns.map .int) ∧ 0 ≤ m ∧ m ≤ 8 ∧
  ∀ l H' os, H l = none → Same H H' → H' l = some (.lst (os.map .int)) → ordOk m os = true → OrdIn os → Q (.ref l) H'
theorem ordIn_of {n : Int} {os : List Int} (h : ordOk n os = true) (hn : n ≤ 8) : OrdIn os := by
  obtain ⟨h1, h2, h3⟩ := ordOk_of h
  exact ⟨by omega, fun k hk => by have := h2 k hk; unfold small; omega⟩
def spLLens : Sp := fun vs H Q _ => ∃ (v : V) (l : Addr) (n : Int) (ts : List (List Int)) (os : List Int), vs = [v, .ref l] ∧ Dat H (webD n ts) v ∧ H l = some (.lst (os.map .int)) ∧ webOk n ts = true ∧ WebIn n ts ∧ ordOk n os = true ∧
  ∀ p H', H p = none → Same H H' → H' p = some (.lst ((lens os ts).map .int)) → Q (.ref p) H'
def spLGaps : Sp := fun vs H Q _ => ∃ (v : V) (l : Addr) (n : Int) (ts : List (List Int)) (os : List Int), vs = [v, .ref l] ∧ Dat H (webD n ts) v ∧ H l = some (.lst (os.map .int)) ∧ webOk n ts = true ∧ WebIn n ts ∧ ordOk n os = true ∧
  ∀ p H', H p = none → Same H H' → H' p = some (.lst ((gapsL (n - 1).toNat os ts).map .int)) → Q (.ref p) H'
theorem flat_ints (ns : List Int) : (ns.map V.int).all flatV = true := List.all_eq_true.mpr fun x hx => by
  obtain ⟨i, _, rfl⟩ := List.mem_map.mp hx
  rfl
theorem sorted2 {a b : Nat} {ms : List Int} (hp : ms.Perm [(a : Int), (b : Int)]) (hs : ms.Pairwise (· ≤ ·)) : ms = [((min a b : Nat) : Int), ((max a b : Nat) : Int)] := by
  have hl := hp.length_eq
  match ms, hl with
  | [x, y], _ =>
    have h1 : x ≤ y := by
      have := List.pairwise_cons.mp hs
      exact this.1 y (by simp)
    have hx : x ∈ [(a : Int), (b : Int)] := hp.mem_iff.mp (by simp)
    have : x = a ∨ x = b := by simpa using hx
    have hy : (x = a ∧ y = b) ∨ (x = b ∧ y = a) := by
      rcases this with rfl | rfl
      · have := (List.singleton_perm_singleton.mp hp.cons_inv)
        exact .inl ⟨rfl, this⟩
      · have := (List.singleton_perm_singleton.mp (hp.trans (List.Perm.swap _ _ _)).cons_inv)
        exact .inr ⟨rfl, this⟩
    have e1 : x = ((min a b : Nat) : Int) := by omega
    have e2 : y = ((max a b : Nat) : Int) := by omega
    rw [e1, e2]
theorem perm_erase {α : Type} : ∀ {l : List α} {i : Nat} (h : i < l.length), (l[i] :: l.eraseIdx i).Perm l
  | [], i, h => by simp at h
  | a :: r, 0, h => List.Perm.refl _
  | a :: r, i + 1, h => by
    have h2 : i < r.length := by simpa using h
    show (r[i] :: a :: r.eraseIdx i).Perm (a :: r)
    exact (List.Perm.swap a r[i] _).trans ((perm_erase h2).cons a)
theorem map_erase {α β : Type} (f : α → β) : ∀ (l : List α) (i : Nat), (l.map f).eraseIdx i = (l.eraseIdx i).map f
  | [], _ => rfl
  | _ :: _, 0 => rfl
  | a :: r, i + 1 => by
    show f a :: (r.map f).eraseIdx i = f a :: (r.eraseIdx i).map f
    rw [map_erase f r i]
def refWord (A : Er) (C : Addr) (x : Str) : Prop := (C = A.BadKind ∧ x = "kind") ∨ (C = A.BadOrder ∧ x = "order") ∨ (C = A.BadSpot ∧ x = "spot") ∨ (C = A.BadText ∧ x = "text") ∨ (C = A.BadWeb ∧ x = "web")
def spRef (A : Er) : Sp := fun vs H Q _ => ∃ x, vs = [x] ∧ ((x = .non ∧ Q (.str "ok") H) ∨ ∃ a C y, x = .ref a ∧ H a = some (excO a C) ∧ refWord A C y ∧ ∀ H', Same H H' → Q (.str y) H')
theorem iteDT {c X Y : Prop} [Decidable c] (hc : c) (h : X) : if decide c = true then X else Y := by rw [decide_eq_true hc]; exact iteT h
theorem iteDF {c X Y : Prop} [Decidable c] (hc : ¬ c) (h : Y) : if decide c = true then X else Y := by rw [decide_eq_false hc]; exact iteF h
theorem seq_nat {n : Nat} {i : Int} (h0 : 0 ≤ i) (h1 : i < n) : seqIndex? i n = some i.toNat := (ixN_seq (by unfold ixN; rw [if_pos h0, if_pos h1])).1
theorem refWord.web {A : Er} : refWord A A.BadWeb "web" := .inr (.inr (.inr (.inr ⟨rfl, rfl⟩)))
theorem refWord.order {A : Er} : refWord A A.BadOrder "order" := .inr (.inl ⟨rfl, rfl⟩)
theorem refWord.kind {A : Er} : refWord A A.BadKind "kind" := .inl ⟨rfl, rfl⟩
theorem refWord.spot {A : Er} : refWord A A.BadSpot "spot" := .inr (.inr (.inl ⟨rfl, rfl⟩))
theorem refWord.text {A : Er} : refWord A A.BadText "text" := .inr (.inr (.inr (.inl ⟨rfl, rfl⟩)))
def Told (A : Er) (H : Hp) (Q : VK) : XK := fun Cv _ H1 => ∃ y C, Same H H1 ∧ Cv = .ref C ∧ refWord A C y ∧ ∀ H', Same H1 H' → Q (.str y) H'
theorem cut_take {xs : List V} {k : Nat} : cutV xs none (some (k : Int)) = xs.take k := by
  unfold cutV
  rw [HT.sIx_none, HT.sIx_nat, Nat.sub_zero, List.drop_zero]
  rw [List.take_eq_take_iff]
  omega
theorem cut_drop {xs : List V} {k : Nat} : cutV xs (some (k : Int)) none = xs.drop k := by
  unfold cutV
  rw [HT.sIx_none, HT.sIx_nat]
  rw [List.take_of_length_le (by rw [List.length_drop]; omega)]
  by_cases c : k ≤ xs.length
  · rw [Nat.min_eq_left c]
  · rw [Nat.min_eq_right (by omega), List.drop_length, List.drop_of_length_le (by omega)]
theorem lay_ints (ns : List Int) : PyData.canLayAll0 (ns.map .int) = true := by
  induction ns with
  | nil => rfl
  | cons a r ih => show (PyData.canLay0 (.int a) && PyData.canLayAll0 (r.map .int)) = true; rw [ih]; rfl
theorem depth_ints (ns : List Int) : PyData.depthAll (ns.map .int) = 0 := by
  induction ns with
  | nil => rfl
  | cons a r ih => show max (PyData.depth (.int a)) (PyData.depthAll (r.map .int)) = 0; rw [ih]; rfl
theorem ite_ne_same {d : PyData} {X Y : Prop} (hc : d.canLay0 = true) (h : Y) : if (if true = true then !PyData.eqv d d else PyData.eqv d d) = true then X else Y := by
  rw [if_pos (rfl : true = true), SeqAt.eqv_refl d hc]; exact iteF h
theorem eq_same {d : PyData} (hc : d.canLay0 = true) : (if false = true then !PyData.eqv d d else PyData.eqv d d) = true := by
  rw [if_neg Bool.false_ne_true, SeqAt.eqv_refl d hc]
theorem nodup_upto (n : Nat) : (upto n).Nodup := by
  unfold upto List.Nodup
  rw [List.pairwise_map]
  exact (List.pairwise_lt_range (n := n)).imp fun {a b} h => by omega
theorem new_pair {H : Hp} {p : Addr} {o : HO} (h : H p = none) : Same H (upd H p o) ∧ upd H p o p = some o := ⟨same_new h, upd_same⟩
end My
set_option Elab.async false
set_option linter.all false
set_option maxRecDepth 100000
set_option maxHeartbeats 4000000
namespace PySem.F
end PySem.F
namespace L2
open PySem PySem.Spec PyProof.Rows
section
variable {prog : Program} {w : World} {A : Around} {E : Value → Shared → Prop} {s : Shared}
end
section
variable {X : Cx}
end
end L2
set_option Elab.async false
set_option linter.all false
set_option maxRecDepth 100000
set_option maxHeartbeats 4000000
namespace My
open PySem L2 PySem.Spec PyProof.Rows
def inR (ns : List Int) (i j : Int) : Prop := (0 ≤ i ∧ i < ns.length) ∧ 0 ≤ j ∧ j < ns.length
instance {ns : List Int} {i j : Int} : Decidable (inR ns i j) := by unfold inR; infer_instance
theorem getD_at {ns : List Int} {i : Nat} (h : i < ns.length) : ns.getD i 0 = ns[i] := by rw [List.getD_eq_getElem?_getD, List.getElem?_eq_getElem h]; rfl
def mask2 (x p : Addr) (H : Hp) : Hp := mask p (mask x H)
section
variable {H H' : Hp} {x p b : Addr} {o : HO}
theorem mask2_some {u : HO} (h : mask2 x p H b = some u) : b ≠ x ∧ b ≠ p ∧ H b = some u := by
  obtain ⟨h1, h2⟩ := mask_some h
  obtain ⟨h3, h4⟩ := mask_some h2
  exact ⟨h3, h1, h4⟩
theorem mask2_at {u : HO} (h1 : b ≠ x) (h2 : b ≠ p) (h : H b = some u) : mask2 x p H b = some u := by
  unfold mask2
  rw [mask_ne h2, mask_ne h1]
  exact h
end
def mask3 (Z : Addr → Bool) (x p : Addr) (H : Hp) : Hp := fun b => if Z b = true then none else mask2 x p H b
section
variable {Z : Addr → Bool} {H H' : Hp} {x p b : Addr} {o : HO}
theorem mask3_some {u : HO} (h : mask3 Z x p H b = some u) : b ≠ x ∧ b ≠ p ∧ H b = some u ∧ Z b = false := by
  unfold mask3 at h
  cases z : Z b with
  | true => rw [z, if_pos rfl] at h; cases h
  | false =>
    rw [z, if_neg Bool.false_ne_true] at h
    obtain ⟨h1, h2, h3⟩ := mask2_some h
    exact ⟨h1, h2, h3, rfl⟩
theorem mask3_at {u : HO} (h1 : b ≠ x) (h2 : b ≠ p) (hz : Z b = false) (h : H b = some u) : mask3 Z x p H b = some u := by
  unfold mask3
  rw [hz, if_neg Bool.false_ne_true]
  exact mask2_at h1 h2 h
theorem mask3_same : Same (mask3 Z x p H) H := fun _ _ h => (mask3_some h).2.2.1
theorem mask3_mono (e : Same H H') : Same (mask3 Z x p H) (mask3 Z x p H') := fun _ _ h => by
  obtain ⟨h1, h2, h3, h4⟩ := mask3_some h
  exact mask3_at h1 h2 h4 (e _ _ h3)
end
section
variable {H H1 H2 H' : Hp} {b x pa : Addr}
end
def laidF (wa ra pa : Addr) : List (Str × V) := putF "past" (.ref pa) (putF "row" (.ref ra) (putF "web" (.ref wa) []))
structure LaidAt (Z : Addr → Bool) (C : Addr) (H : Hp) (x pa : Addr) (n : Int) (ts : List (List Int)) (cur : List Int) (past : List (List Int)) : Prop where
  ex : ∃ (dx wa ra : Addr) (ps : List V), H x = some (.ins C dx (laidF wa ra pa)) ∧ H pa = some (.lst ps) ∧ Dat (mask3 Z x pa H) (webD n ts) (.ref wa) ∧ mask3 Z x pa H ra = some (.lst (cur.map .int)) ∧ DatL (mask3 Z x pa H) (past.map ordD) ps
abbrev Z0 : Addr → Bool := fun _ => false
section
variable {Z : Addr → Bool} {C : Addr} {H H' : Hp} {x pa : Addr} {n : Int} {ts : List (List Int)} {cur : List Int} {past : List (List Int)}
theorem LaidAt.later (h : LaidAt Z C H x pa n ts cur past) (e : Same H H') : LaidAt Z C H' x pa n ts cur past := by
  obtain ⟨dx, wa, ra, ps, h1, h2, h3, h4, h5⟩ := h.ex
  exact ⟨dx, wa, ra, ps, e _ _ h1, e _ _ h2, h3.mono (mask3_mono e), mask3_mono e _ _ h4, h5.mono (mask3_mono e)⟩
theorem LaidAt.all (h : LaidAt Z C H x pa n ts cur past) : LaidAt Z0 C H x pa n ts cur past := by
  obtain ⟨dx, wa, ra, ps, h1, h2, h3, h4, h5⟩ := h.ex
  have e : Same (mask3 Z x pa H) (mask3 Z0 x pa H) := fun b u q => by
    obtain ⟨q1, q2, q3, _⟩ := mask3_some q
    exact mask3_at q1 q2 rfl q3
  exact ⟨dx, wa, ra, ps, h1, h2, h3.mono e, e _ _ h4, h5.mono e⟩
theorem LaidAt.put {l : Addr} {o : HO} (h : LaidAt (fun b => decide (b = l)) C H x pa n ts cur past) (h1 : x ≠ l) (h2 : pa ≠ l) : LaidAt (fun b => decide (b = l)) C (upd H l o) x pa n ts cur past := by
  obtain ⟨dx, wa, ra, ps, q1, q2, q3, q4, q5⟩ := h.ex
  have e : Same (mask3 (fun b => decide (b = l)) x pa H) (mask3 (fun b => decide (b = l)) x pa (upd H l o)) := fun b u q => by
    obtain ⟨r1, r2, r3, r4⟩ := mask3_some q
    exact mask3_at r1 r2 r4 (by rw [upd_ne (of_decide_eq_false r4)]; exact r3)
  exact ⟨dx, wa, ra, ps, (upd_ne h1).trans q1, (upd_ne h2).trans q2, q3.mono e, e _ _ q4, q5.mono e⟩
theorem LaidAt.at (h : LaidAt Z C H x pa n ts cur past) : ∃ (dx wa ra : Addr), H x = some (.ins C dx (laidF wa ra pa)) ∧ Dat H (webD n ts) (.ref wa) ∧ H ra = some (.lst (cur.map .int)) := by
  obtain ⟨dx, wa, ra, ps, h1, h2, h3, h4, h5⟩ := h.ex
  exact ⟨dx, wa, ra, h1, h3.mono mask3_same, mask3_same _ _ h4⟩
end
structure LaidOk (C : Addr) (H : Hp) (x : Addr) (n : Int) (ts : List (List Int)) (cur : List Int) : Prop where
  at_ : ∃ pa past, LaidAt Z0 C H x pa n ts cur past
  web : webOk n ts = true
  win : WebIn n ts
  ord : ordOk n cur = true
  oin : OrdIn cur
def spLMeas : Sp := fun vs H Q _ => ∃ (v : V) (kd : Str) (l : Addr) (n : Int) (ts : List (List Int)) (os : List Int), vs = [v, .str kd, .ref l] ∧ Dat H (webD n ts) v ∧ H l = some (.lst (os.map .int)) ∧ webOk n ts = true ∧ WebIn n ts ∧ ts.length ≤ 64 ∧ ordOk n os = true ∧
  (kd = "longest" → ∀ H', Same H H' → Q (.int (longF n os ts)) H') ∧ (kd = "most" → ∀ H', Same H H' → Q (.int (mostF n os ts)) H') ∧ (kd ≠ "longest" → kd ≠ "most" → ∀ H', Same H H' → Q (.int (totF n os ts)) H')
end My
set_option Elab.async false
set_option linter.all false
set_option maxRecDepth 100000
set_option maxHeartbeats 4000000
namespace L2
open PySem PySem.Spec PyProof.Rows
section
variable {X : Cx}
def IsMin (ns : List Int) (m : Int) : Prop := m ∈ ns ∧ ∀ a ∈ ns, m ≤ a
theorem IsMin.uniq {ns : List Int} {m m' : Int} (h : IsMin ns m) (h' : IsMin ns m') : m = m' := Int.le_antisymm (h.2 _ h'.1) (h'.2 _ h.1)
theorem numAt_min {ys : Array (Int × Tok)} {ns : List Int} (hns : ns = ys.toList.map (·.1)) (hs : 0 < ys.size) : IsMin ns (numAt ys (argBest (fun i j => decide (numAt ys i < numAt ys j)) (ys.size - 1))) := by
  obtain ⟨h1, h2⟩ := argBest_lt (numAt ys) (ys.size - 1)
  constructor
  · rw [hns, numAt_eq]
    exact getD_mem (by rw [List.length_map, Array.length_toList]; omega)
  · intro a ha
    rw [hns] at ha
    obtain ⟨j, hj, rfl⟩ := mem_getD ha
    rw [List.length_map, Array.length_toList] at hj
    rw [← numAt_eq]
    exact h2 j (by omega)
theorem call_minL (hc : X.calm = true) : CallR X (.builtin "min") (fun xs H Q => ∃ (p : Addr) (ns : List Int), xs = [.ref p] ∧ SqL X.K H p (ns.map .int) ∧ ns ≠ [] ∧ ∀ M, IsMin ns M → Q (.int M) H) := by
  intro pins s σ H xs us Q I r h
  obtain ⟨p, ns, rfl, hq, hne, q⟩ := h
  obtain ⟨u, rfl, ru⟩ := vals1 r
  cases ru
  obtain ⟨its, rv, pl, hz⟩ := I.list hq
  obtain ⟨ys, e, hns⟩ := items_ints (intsAre_of rv)
  have hs : 0 < ys.size := by
    have : 0 < ns.length := List.length_pos_iff.mpr hne
    rw [hns, List.length_map, Array.length_toList] at this
    exact this
  refine min_intList (I.ok.hd hc) (by rw [← e]; exact pl.isList) hs fun v h1 tk hv kk => ?_
  obtain ⟨t, rfl⟩ := intItems_at hv
  exact ⟨.int _, H, I.kept kk, ⟨t, rfl⟩, q _ (numAt_min hns hs)⟩
theorem vals_bl : ∀ {bs : List Bool} {us : List Value}, Vals (bs.map V.bl) us → us = bs.map .bool
  | [], _, .nil => rfl
  | b :: bs, _, .cons r t => by
    have := vals_bl t
    subst this
    cases r
    rfl
theorem all_range (bs : List Bool) : ((List.range bs.length).all fun i => (bs[i]?).getD true) = bs.all id := by
  rw [Bool.eq_iff_iff, List.all_eq_true, List.all_eq_true]
  constructor
  · intro h b hb
    obtain ⟨i, hi, rfl⟩ := List.getElem_of_mem hb
    have := h i (List.mem_range.mpr hi)
    rw [List.getElem?_eq_getElem hi] at this
    exact this
  · intro h i hi
    have hi' := List.mem_range.mp hi
    rw [List.getElem?_eq_getElem hi']
    exact h _ (List.getElem_mem hi')
theorem call_allB (hc : X.calm = true) : CallR X (.builtin "all") (fun xs H Q => ∃ (p : Addr) (bs : List Bool), xs = [.ref p] ∧ SqL X.K H p (bs.map .bl) ∧ Q (.bl (bs.all id)) H) := by
  intro pins s σ H xs us Q I r h
  obtain ⟨p, bs, rfl, hq, q⟩ := h
  obtain ⟨u, rfl, ru⟩ := vals1 r
  cases ru
  obtain ⟨its, rv, pl, hz⟩ := I.list hq
  have hits := vals_bl rv
  subst hits
  have hl := pl.isList
  have hlt : p < s.heap.objs.size := by obtain ⟨_, e, _⟩ := hl; exact Heap.lt_size e
  have kept : ∀ {h' : Heap} {o : Obj}, (∀ b x, b ∉ [s.heap.objs.size] → (s.heap.push o).get? b = some x → h'.get? b = some x) → ∀ b x, s.heap.get? b = some x → h'.get? b = some x :=
    fun hk b x e => hk b x (fun hm => by rw [List.mem_singleton.mp hm] at e; exact Nat.lt_irrefl _ (Heap.lt_size e)) (Heap.get?_push_of_some _ e)
  refine call_all_walk (wpAny_pyIter_list hl ?_)
  refine ⟨s.heap.objs.size, [s.heap.objs.size, p], [s.heap.objs.size], (bs.map Value.bool).toArray.size, _, _, fun i => (bs[i]?).getD true, rfl, Walks.list (A := X.A.in1) (I.ok.hd hc) _ p (Nat.ne_of_lt hlt) (bs.map Value.bool).toArray,
    ⟨⟨_, Heap.get?_push_size _ rfl, rfl, rfl⟩, hl.push _⟩, fun i v s' Q' E' hP hQ => ?_, fun h' tk hk => ?_⟩
  · have hP' : (bs.map Value.bool)[i]? = some v := by simpa using hP
    rw [List.getElem?_map] at hP'
    cases e : bs[i]? with
    | none => rw [e] at hP'; cases hP'
    | some b =>
      rw [e] at hP'
      cases hP'
      have hQ' : Q' ((bs[i]?).getD true) s' := hQ
      rw [e] at hQ'
      exact wpAny_truthy_bool hQ'
  · have e : ((List.range (bs.map Value.bool).toArray.size).all fun i => (bs[i]?).getD true) = bs.all id := by
      rw [List.size_toArray, List.length_map]; exact all_range bs
    rw [e]
    exact ⟨.bl (bs.all id), H, I.kept (kept hk), rfl, q⟩
def rBits : V → List V → Hp → VK → Prop := fun x vs H Q => ∃ i : Int, x = .int i ∧ vs = [] ∧ Q (.int (Builtin.Int.intBits i : Nat)) H
theorem mt_bits : MtR X "int.bit_length" rBits := by
  intro pins s σ H x vs v us Q I rx rv h
  obtain ⟨i, rfl, rfl, q⟩ := h
  obtain ⟨t, rfl⟩ := rx
  cases rv
  exact wpAny_call_entry PySem.F.slot_int_bit_length (typeIs_int s i t) PySem.F.entry_int_bit_length (show wpAny _ _ (do ret (← mkInt (Builtin.Int.intBits i : Nat))) _ _ s from wpAny_ret_mkInt ⟨.int _, H, I.tok _, ⟨_, rfl⟩, q⟩) (PySem.F.args_int_bit_length_1 _)
end
theorem lcf_in {J : It} {g : TG} {tt : TT} {te : TE} {H1 : Hp} {σ0 : St} {QD : Addr → Hp → Prop} (S : St → Prop) (n : Nat) (c : Nat → Bool) (d : Nat → PyData) (s0 : S σ0) (hgo : ∀ i H2, i < n → Same H1 H2 → J.go i H2) (hstop : ∀ H2, Same H1 H2 → J.stop n H2) (hn : n ≤ sizeLine)
    (step : ∀ D i x σ2 H2 H3 (Y : V → St → Hp → Prop) (Z : St → Hp → Prop), i < n → Same H1 H2 → (∃ ys, H2 D = some (.lst ys)) → S σ2 → J.yld i H2 x H3 → (∀ y σ4 H6, c i = true → S σ4 → Same H2 H6 → Dat (mask D H6) (d i) y → Y y σ4 H6) →
      (∀ σ4 H5, c i = false → S σ4 → Same H2 H5 → Z σ4 H5) → g x σ2 H3 fun σ4 H4 => tt σ4 H4 fun b H5 => if b = true then te σ4 H5 fun y H6 => Y y σ4 H6 else Z σ4 H5)
    (fin : ∀ D ys H2, H1 D = none → Same H1 H2 → H2 D = some (.lst ys) → DatL (mask D H2) (((List.range n).filter c).map d) ys → QD D H2) :
    ∀ D, H1 D = none → ∃ W : Nat → Nat → St → Hp → Prop, (∃ m, W 0 m σ0 (upd H1 D (.lst []))) ∧
      ∀ i m σ2 H2, W i m σ2 H2 → (J.stop i H2 ∧ QD D H2) ∨ (J.go i H2 ∧ ∀ x H3, J.yld i H2 x H3 → g x σ2 H3 fun σ4 H4 => tt σ4 H4 fun b H5 =>
        if b = true then te σ4 H5 fun y H6 => ∃ xs, H6 D = some (.lst xs) ∧ xs.length < sizeLine ∧ ∃ m', m' < m ∧ W (i + 1) m' σ4 (upd H6 D (.lst (xs ++ [y]))) else ∃ m', m' < m ∧ W (i + 1) m' σ4 H5) := by
  intro D hD
  refine ⟨fun i m σ2 H2 => i + m = n ∧ S σ2 ∧ Same H1 H2 ∧ ∃ ys, H2 D = some (.lst ys) ∧ DatL (mask D H2) (((List.range i).filter c).map d) ys, ⟨n, by omega, s0, same_new hD, [], upd_same, .nil⟩, ?_⟩
  intro i m σ2 H2 ⟨hi, hs, e, ys, hy, dl⟩
  by_cases h : i < n
  · refine .inr ⟨hgo i H2 h e, fun x H3 yl => ?_⟩
    have hl := dl.length
    have hle : ((List.range i).filter c).length ≤ i := Nat.le_trans (List.length_filter_le _ _) (by rw [List.length_range]; exact Nat.le_refl _)
    rw [List.length_map] at hl
    refine step D i x σ2 H2 H3 (fun y σ4 H6 => ∃ xs, H6 D = some (.lst xs) ∧ xs.length < sizeLine ∧ ∃ m', m' < m ∧ _) (fun σ4 H5 => ∃ m', m' < m ∧ _) h e ⟨ys, hy⟩ hs yl (fun y σ4 H6 hc s4 e6 dy => ?_) fun σ4 H5 hc s4 e5 => ?_
    · refine ⟨ys, e6 _ _ hy, by omega, m - 1, by omega, by omega, s4, (e.trans e6).put hD, ys ++ [y], upd_same, ?_⟩
      rw [mask_upd, List.range_succ, List.filter_append, List.map_append]
      have z : (List.filter c [i]) = [i] := by rw [List.filter_cons, if_pos hc]; rfl
      rw [z]
      exact (dl.mono (mask_mono e6)).snoc dy
    · refine ⟨m - 1, by omega, by omega, s4, e.trans e5, ys, e5 _ _ hy, ?_⟩
      have z : (List.filter c [i]) = [] := by rw [List.filter_cons, if_neg (by rw [hc]; exact Bool.false_ne_true)]; rfl
      rw [List.range_succ, List.filter_append, z, List.append_nil]
      exact dl.mono (mask_mono e5)
  · have hin : i = n := by omega
    subst hin
    exact .inl ⟨hstop H2 e, fin D ys H2 hD e hy dl⟩
section
variable {X : Cx} {a b : Expr} {rest : List Expr} {ta tb : TE} {pos : Pos}
def tOrL (K : PySem.W.Frag) (ta tb : TE) : TE := fun σ H Q => ta σ H fun x H1 => ∃ c, TruV K x H1 c ∧ if c = true then Q x H1 else tb σ H1 Q
theorem pe_orL (ha : PE X a ta) (hb : PE X (.BoolOp .Or (b :: rest) pos) tb) : PE X (.BoolOp .Or (a :: b :: rest) pos) (tOrL X.K ta tb) := by
  intro pins s σ H Q I h
  refine BoolOp_or (thn (ha pins s σ H _ I h) fun v s1 ⟨x, H1, I1, r1, q1⟩ => ?_)
  obtain ⟨c, ht, q1⟩ := q1
  refine thn (tru_ok pins s1 σ H1 x v (fun c H2 => if c = true then Q x H2 else tb σ H2 Q) I1 r1 ⟨c, ht, q1⟩) fun d s2 ⟨H2, I2, q2⟩ => ?_
  cases d with
  | true => exact ⟨x, H2, I2, r1, q2⟩
  | false => exact hb pins s2 σ H2 Q I2 q2
end
section
variable {X : Cx} {K : PySem.W.Frag}
theorem op_notIn_seqK (hK : X.K = K) : OpR X (compareOp .NotIn) (rIn K true) := hK ▸ op_notIn_seq
end
end L2
set_option Elab.async false
set_option linter.all false
set_option maxRecDepth 100000
set_option maxHeartbeats 4000000
namespace My
open PySem L2 PySem.Spec PyProof.Rows
def bit (S p : Nat) : Bool := S / 2 ^ p % 2 == 1
theorem bit_high {S p : Nat} (h : S < 2 ^ p) : bit S p = false := by
  unfold bit
  rw [Nat.div_eq_of_lt h]
  rfl
theorem bit_out {n S p : Nat} (h : S < 2 ^ n) (hp : n ≤ p) : bit S p = false := bit_high (Nat.lt_of_lt_of_le h (Nat.pow_le_pow_right (by decide) hp))
theorem lt32 {n S : Nat} (hn : n ≤ 5) (h : S < 2 ^ n) : S < 32 := Nat.lt_of_lt_of_le h (show 2 ^ n ≤ 2 ^ 5 from Nat.pow_le_pow_right (by decide) hn)
theorem bits_put : ∀ S < 32, ∀ p < 5, ∀ q < 5, bit S p = false → bit (S + 2 ^ p) q = (decide (q = p) || bit S q) := by decide +kernel
theorem bits_lt : ∀ n < 6, ∀ S < 2 ^ n, ∀ p < n, bit S p = false → S + 2 ^ p < 2 ^ n := by decide +kernel
theorem bits_off : ∀ S < 32, ∀ p < 5, bit S p = true → 2 ^ p ≤ S ∧ bit (S - 2 ^ p) p = false := by decide +kernel
theorem bits_full : ∀ n < 6, ∀ q < n, bit (2 ^ n - 1) q = true := by decide +kernel
theorem bits_ext : ∀ S < 32, ∀ S' < 32, (∀ q < 5, bit S q = bit S' q) → S = S' := by decide +kernel
theorem bits_some : ∀ S < 32, S ≠ 0 → ∃ p, p < 5 ∧ bit S p = true := by decide +kernel
theorem bit_off {n S p : Nat} (hn : n ≤ 5) (h : S < 2 ^ n) (hb : bit S p = true) : p < n ∧ 2 ^ p ≤ S ∧ bit (S - 2 ^ p) p = false := by
  have hp : p < n := by
    by_cases c : p < n
    · exact c
    · rw [bit_out h (by omega)] at hb
      cases hb
  exact ⟨hp, bits_off S (lt32 hn h) p (by omega) hb⟩
theorem two_pos (p : Nat) : 1 ≤ 2 ^ p := Nat.one_le_two_pow
def spots (m S : Nat) : List Nat := (List.range m).filter (bit S)
def fewer (m S : Nat) : List Nat := (spots m S).map fun p => S - 2 ^ p
theorem spots_more {S : Nat} : ∀ {m j : Nat}, (∀ p, m ≤ p → bit S p = false) → spots (m + j) S = spots m S
  | m, 0, _ => rfl
  | m, j + 1, h => by
    have := spots_more (j := j) h
    unfold spots at this ⊢
    rw [← Nat.add_assoc, List.range_succ, List.filter_append, this, List.filter_cons, if_neg (by rw [h _ (by omega)]; exact Bool.false_ne_true)]
    exact List.append_nil _
theorem spots_any {n m S : Nat} (h : S < 2 ^ n) (hm : S < 2 ^ m) : spots m S = spots n S := by
  rcases Nat.le_total n m with c | c
  · obtain ⟨j, rfl⟩ := Nat.exists_eq_add_of_le c
    exact spots_more fun p hp => bit_out h hp
  · obtain ⟨j, rfl⟩ := Nat.exists_eq_add_of_le c
    exact (spots_more fun p hp => bit_out hm hp).symm
theorem spots_mem {m S p : Nat} : p ∈ spots m S ↔ p < m ∧ bit S p = true := by
  unfold spots
  rw [List.mem_filter, List.mem_range]
theorem fewer_lt {m S f : Nat} (hS : S < 32) (hm : m ≤ 5) (h : f ∈ fewer m S) : f < S := by
  unfold fewer at h
  obtain ⟨p, hp, rfl⟩ := List.mem_map.mp h
  obtain ⟨h1, h2⟩ := spots_mem.mp hp
  have := (bits_off S hS p (by omega) h2).1
  have := two_pos p
  omega
theorem fewer_ne {n S : Nat} (hn : n ≤ 5) (h : S < 2 ^ n) (h0 : S ≠ 0) : fewer n S ≠ [] := by
  obtain ⟨p, h1, h2⟩ := bits_some S (lt32 hn h) h0
  have hp := (bit_off hn h h2).1
  unfold fewer
  intro e
  have : spots n S = [] := List.map_eq_nil_iff.mp e
  have hm := spots_mem.mpr ⟨hp, h2⟩
  rw [this] at hm
  cases hm
theorem intBits_lt (S : Nat) : S < 2 ^ Builtin.Int.intBits (S : Int) := by
  unfold Builtin.Int.intBits
  by_cases c : (S : Int) = 0
  · rw [if_pos (by rw [c]; rfl)]
    omega
  · rw [if_neg (fun z => c (eq_of_beq z))]
    show S < 2 ^ (S.log2 + 1)
    exact Nat.lt_log2_self
def cut1 (S : Nat) : List Int → Int
  | [a, b, c] => if bit S a.toNat = bit S b.toNat then 0 else c
  | _ => 0
def cutZ (ts : List (List Int)) (S : Nat) : Int := (ts.map (cut1 S)).sum
def minL : List Int → Int
  | [] => 0
  | a :: r => r.foldr min a
theorem foldr_min (r : List Int) (a : Int) : IsMin (a :: r) (r.foldr min a) := by
  induction r with
  | nil => exact ⟨List.mem_singleton.mpr rfl, fun b hb => by rw [List.mem_singleton.mp hb]; exact Int.le_refl _⟩
  | cons c r ih =>
    obtain ⟨h1, h2⟩ := ih
    show IsMin _ (min c (r.foldr min a))
    constructor
    · rcases Int.le_total c (r.foldr min a) with z | z
      · rw [Int.min_eq_left z]
        exact .tail _ (.head _)
      · rw [Int.min_eq_right z]
        rcases List.mem_cons.mp h1 with e | e
        · rw [e]; exact .head _
        · exact .tail _ (.tail _ e)
    · intro b hb
      rcases List.mem_cons.mp hb with rfl | hb
      · exact Int.le_trans (Int.min_le_right _ _) (h2 _ (.head _))
      · rcases List.mem_cons.mp hb with rfl | hb
        · exact Int.min_le_left _ _
        · exact Int.le_trans (Int.min_le_right _ _) (h2 _ (.tail _ hb))
theorem minL_is {ns : List Int} (h : ns ≠ []) : IsMin ns (minL ns) := by
  cases ns with
  | nil => exact absurd rfl h
  | cons a r => exact foldr_min r a
def prs (n : Nat) (ts : List (List Int)) : Nat → List Int
  | 0 => []
  | 1 => [0]
  | k + 2 => prs n ts (k + 1) ++ [minL ((fewer n (k + 1)).map fun f => (prs n ts (k + 1)).getD f 0) + cutZ ts (k + 1)]
theorem prs_len (n : Nat) (ts : List (List Int)) : ∀ k, (prs n ts k).length = k
  | 0 => rfl
  | 1 => rfl
  | k + 2 => by
    unfold prs
    rw [List.length_append, prs_len n ts (k + 1)]
    rfl
def price (n : Nat) (ts : List (List Int)) (S : Nat) : Int := (prs n ts (S + 1)).getD S 0
theorem getD_append_left {as bs : List Int} {i : Nat} (h : i < as.length) : (as ++ bs).getD i 0 = as.getD i 0 := by
  rw [List.getD_eq_getElem?_getD, List.getD_eq_getElem?_getD, List.getElem?_append_left h]
theorem prs_get {n : Nat} {ts : List (List Int)} {S : Nat} : ∀ {k : Nat}, S < k → (prs n ts k).getD S 0 = price n ts S
  | 0, h => absurd h (Nat.not_lt_zero _)
  | 1, h => by
    obtain rfl : S = 0 := by omega
    rfl
  | k + 2, h => by
    by_cases c : S < k + 1
    · show ((prs n ts (k + 1)) ++ _).getD S 0 = _
      rw [getD_append_left (by rw [prs_len]; exact c)]
      exact prs_get c
    · obtain rfl : S = k + 1 := by omega
      rfl
theorem price_succ {n : Nat} {ts : List (List Int)} {S : Nat} (hn : n ≤ 5) (hS : S < 2 ^ n) (h0 : S ≠ 0) : price n ts S = minL ((fewer n S).map (price n ts)) + cutZ ts S := by
  obtain ⟨k, rfl⟩ : ∃ k, S = k + 1 := ⟨S - 1, by omega⟩
  have e : (fewer n (k + 1)).map (fun f => (prs n ts (k + 1)).getD f 0) = (fewer n (k + 1)).map (price n ts) :=
    List.map_congr_left fun f hf => prs_get (fewer_lt (lt32 hn hS) hn hf)
  unfold price
  show (prs n ts (k + 1) ++ [_]).getD (k + 1) 0 = _
  rw [List.getD_eq_getElem?_getD, List.getElem?_append_right (by rw [prs_len]; exact Nat.le_refl _), prs_len, Nat.sub_self]
  show minL ((fewer n (k + 1)).map fun f => (prs n ts (k + 1)).getD f 0) + cutZ ts (k + 1) = _
  rw [e]
  rfl
def setOf : List Int → Nat
  | [] => 0
  | p :: r => setOf r + 2 ^ p.toNat
theorem setOf_bits {n : Nat} (hn : n ≤ 5) : ∀ {ps : List Int}, ps.Nodup → (∀ p ∈ ps, 0 ≤ p ∧ p < n) → setOf ps < 2 ^ n ∧ ∀ q : Nat, q < n → bit (setOf ps) q = decide ((q : Int) ∈ ps)
  | [], _, _ => ⟨Nat.two_pow_pos n, fun q hq => by
      rw [decide_eq_false (fun z => nomatch z)]
      exact bit_high (Nat.two_pow_pos q)⟩
  | p :: r, hd, hb => by
    obtain ⟨h1, h2⟩ := List.nodup_cons.mp hd
    obtain ⟨a, b⟩ := setOf_bits hn h2 fun x hx => hb x (.tail _ hx)
    obtain ⟨p0, p1⟩ := hb p (.head _)
    have hpn : p.toNat < n := by omega
    have hf : bit (setOf r) p.toNat = false := by
      rw [b _ hpn, Int.toNat_of_nonneg p0]
      exact decide_eq_false h1
    refine ⟨bits_lt n (by omega) _ a _ hpn hf, fun q hq => ?_⟩
    show bit (setOf r + 2 ^ p.toNat) q = _
    rw [bits_put _ (lt32 hn a) _ (by omega) q (by omega) hf, b q hq]
    by_cases c : q = p.toNat
    · rw [decide_eq_true c, decide_eq_true (List.mem_cons.mpr (.inl (by omega)))]
      rfl
    · rw [decide_eq_false c, Bool.false_or]
      by_cases m : (q : Int) ∈ r
      · rw [decide_eq_true m, decide_eq_true (List.mem_cons.mpr (.inr m))]
      · rw [decide_eq_false m, decide_eq_false fun z => (List.mem_cons.mp z).elim (fun e => c (by omega)) m]
def way (ts : List (List Int)) : List Int → Int
  | [] => 0
  | p :: r => way ts r + cutZ ts (setOf (p :: r))
theorem way_most {n : Nat} (hn : n ≤ 5) {ts : List (List Int)} {T : Nat → Int} (h0 : T 0 ≤ 0) (hT : ∀ S p, S < 2 ^ n → p < n → bit S p = false → T (S + 2 ^ p) ≤ T S + cutZ ts (S + 2 ^ p)) :
    ∀ {ps : List Int}, ps.Nodup → (∀ p ∈ ps, 0 ≤ p ∧ p < n) → T (setOf ps) ≤ way ts ps
  | [], _, _ => h0
  | p :: r, hd, hb => by
    obtain ⟨h1, h2⟩ := List.nodup_cons.mp hd
    have ih := way_most hn h0 hT h2 fun x hx => hb x (.tail _ hx)
    obtain ⟨a, b⟩ := setOf_bits hn h2 fun x hx => hb x (.tail _ hx)
    obtain ⟨p0, p1⟩ := hb p (.head _)
    have hpn : p.toNat < n := by omega
    have hf : bit (setOf r) p.toNat = false := by
      rw [b _ hpn, Int.toNat_of_nonneg p0]
      exact decide_eq_false h1
    have := hT (setOf r) p.toNat a hpn hf
    show T (setOf r + 2 ^ p.toNat) ≤ way ts r + cutZ ts (setOf r + 2 ^ p.toNat)
    omega
theorem price_step {n : Nat} (hn : n ≤ 5) {ts : List (List Int)} {S p : Nat} (hS : S < 2 ^ n) (hp : p < n) (hb : bit S p = false) : price n ts (S + 2 ^ p) ≤ price n ts S + cutZ ts (S + 2 ^ p) := by
  have hlt := bits_lt n (by omega) S hS p hp hb
  have h0 : S + 2 ^ p ≠ 0 := by have := two_pos p; omega
  rw [price_succ hn hlt h0]
  have hbp : bit (S + 2 ^ p) p = true := by
    rw [bits_put S (lt32 hn hS) p (by omega) p (by omega) hb, decide_eq_true rfl]
    rfl
  have hm : S ∈ fewer n (S + 2 ^ p) := by
    unfold fewer
    exact List.mem_map.mpr ⟨p, spots_mem.mpr ⟨hp, hbp⟩, by omega⟩
  have := (minL_is (ns := (fewer n (S + 2 ^ p)).map (price n ts)) (fun e => by rw [List.map_eq_nil_iff.mp e] at hm; cases hm)).2 _ (List.mem_map.mpr ⟨S, hm, rfl⟩)
  omega
theorem price_way {n : Nat} (hn : n ≤ 5) {ts : List (List Int)} : ∀ (k S : Nat), S ≤ k → S < 2 ^ n → ∃ ps : List Int, ps.Nodup ∧ (∀ p ∈ ps, 0 ≤ p ∧ p < n) ∧ setOf ps = S ∧ way ts ps = price n ts S
  | 0, S, hk, _ => by
    obtain rfl : S = 0 := by omega
    exact ⟨[], List.nodup_nil, fun p h => absurd h List.not_mem_nil, rfl, rfl⟩
  | k + 1, S, hk, hS => by
    by_cases c : S = 0
    · subst c
      exact ⟨[], List.nodup_nil, fun p h => absurd h List.not_mem_nil, rfl, rfl⟩
    · have hne := fewer_ne hn hS c
      obtain ⟨hm, _⟩ := minL_is (ns := (fewer n S).map (price n ts)) (fun e => hne (List.map_eq_nil_iff.mp e))
      obtain ⟨f, hf, ef⟩ := List.mem_map.mp hm
      have hlt := fewer_lt (lt32 hn hS) hn hf
      unfold fewer at hf
      obtain ⟨p, hp, rfl⟩ := List.mem_map.mp hf
      obtain ⟨hp1, hp2⟩ := spots_mem.mp hp
      obtain ⟨_, hle, hoff⟩ := bit_off hn hS hp2
      obtain ⟨ps, d, b, m, e⟩ := price_way hn (ts := ts) k (S - 2 ^ p) (by omega) (by omega)
      obtain ⟨_, bm⟩ := setOf_bits hn d b
      have hnp : ((p : Nat) : Int) ∉ ps := by
        have := bm p hp1
        rw [m, hoff] at this
        exact of_decide_eq_false this.symm
      have hmk : setOf ((p : Int) :: ps) = S := by
        show setOf ps + 2 ^ ((p : Int)).toNat = S
        rw [m, Int.toNat_natCast]
        omega
      refine ⟨(p : Int) :: ps, List.nodup_cons.mpr ⟨hnp, d⟩, fun x hx => ?_, hmk, ?_⟩
      · rcases List.mem_cons.mp hx with rfl | hx
        · omega
        · exact b x hx
      · show way ts ps + cutZ ts (setOf ((p : Int) :: ps)) = _
        rw [hmk, e, price_succ hn hS c, ef]
theorem bt_all : bootBuiltins ("all" : Str) = some (Value.builtin "all") := by rfl
theorem bit_le {S p : Nat} (h : bit S p = true) : 2 ^ p ≤ S := by
  by_cases c : S < 2 ^ p
  · rw [bit_high c] at h
    cases h
  · omega
def spCount : Sp := fun vs H Q _ => ∃ n : Nat, vs = [.int n] ∧ n ≤ 8 ∧ Q (.int ((2 ^ n : Nat) : Int)) H
def spHolds : Sp := fun vs H Q _ => ∃ S p : Nat, vs = [.int S, .int p] ∧ p ≤ 1000 ∧ Q (.bl (bit S p)) H
def natsV (l : List Nat) : List V := l.map fun f => V.int (f : Nat)
def spFewer : Sp := fun vs H Q _ => ∃ S : Nat, vs = [.int S] ∧ S < 1000 ∧ ∀ l H', H l = none → Same H H' → H' l = some (.lst (natsV (fewer (Builtin.Int.intBits (S : Int)) S))) → Q (.ref l) H'
def spLeast : Sp := fun vs H Q _ => ∃ (l : Addr) (ns : List Int) (S n : Nat), vs = [.ref l, .int S] ∧ H l = some (.lst (ns.map .int)) ∧ n ≤ 5 ∧ S < 2 ^ n ∧ S ≠ 0 ∧ S ≤ ns.length ∧ ∀ H', Same H H' → Q (.int (minL ((fewer n S).map fun f => ns.getD f 0))) H'
def spLead : Sp := fun vs H Q _ => ∃ (v : V) (n : Nat) (ts : List (List Int)), vs = [v] ∧ Dat H (webD n ts) v ∧ webOk n ts = true ∧ WebIn n ts ∧ n ≤ 5 ∧
  ∀ l H', H l = none → Same H H' → H' l = some (.lst (((List.range (2 ^ n)).map (cutZ ts)).map .int)) → Q (.ref l) H'
def spPrices (A : Er) : Sp := fun vs H Q E => ∃ (v : V) (n : Int) (ts : List (List Int)), vs = [v] ∧ Dat H (webD n ts) v ∧ WebIn n ts ∧ (webOk n ts = true → n ≤ 5) ∧
  (webOk n ts = true → ∀ l H', H l = none → Same H H' → H' l = some (.lst ((prs n.toNat ts (2 ^ n.toNat)).map .int)) → Q (.ref l) H') ∧ (webOk n ts = false → ∀ H', Same H H' → E (.ref A.BadWeb) none H')
def spLeastT (A : Er) : Sp := fun vs H Q E => ∃ (v : V) (n : Int) (ts : List (List Int)), vs = [v] ∧ Dat H (webD n ts) v ∧ WebIn n ts ∧ (webOk n ts = true → n ≤ 5) ∧
  (webOk n ts = true → ∀ H', Same H H' → Q (.int (price n.toNat ts (2 ^ n.toNat - 1))) H') ∧ (webOk n ts = false → ∀ H', Same H H' → E (.ref A.BadWeb) none H')
def keepsTo (n : Nat) (ts : List (List Int)) (ns : List Int) (k : Nat) : Bool := (List.range k).all fun S => decide (S = 0) || decide (ns.getD S 0 ≤ minL ((fewer n S).map fun f => ns.getD f 0) + cutZ ts S)
def showsB (n : Nat) (ts : List (List Int)) (bound : Int) (ns : List Int) : Bool := decide (ns.length = 2 ^ n) && (decide (ns.getD 0 0 = 0) && (decide (bound ≤ ns.getD (2 ^ n - 1) 0) && keepsTo n ts ns (2 ^ n)))
def spShows (A : Er) : Sp := fun vs H Q E => ∃ (v : V) (l : Addr) (n : Int) (ts : List (List Int)) (bound : Int) (ns : List Int), vs = [v, .int bound, .ref l] ∧ Dat H (webD n ts) v ∧ WebIn n ts ∧ (webOk n ts = true → n ≤ 5) ∧ H l = some (.lst (ns.map .int)) ∧ ns.length ≤ 1000 ∧
  (webOk n ts = true → ∀ H', Same H H' → Q (.bl (showsB n.toNat ts bound ns)) H') ∧ (webOk n ts = false → ∀ H', Same H H' → E (.ref A.BadWeb) none H')
theorem sum_filter {α : Type} (c : α → Bool) (f : α → Int) : ∀ l : List α, ((l.filter c).map f).sum = (l.map fun x => if c x = true then f x else 0).sum
  | [] => rfl
  | x :: l => by
    rw [List.filter_cons]
    by_cases h : c x = true
    · rw [if_pos h, List.map_cons, List.map_cons, List.sum_cons, List.sum_cons, sum_filter c f l, if_pos h]
    · rw [if_neg h, List.map_cons, List.sum_cons, sum_filter c f l, if_neg h, Int.zero_add]
def cne (S : Nat) : List Int → Bool
  | [a, b, _] => !decide (bit S a.toNat = bit S b.toNat)
  | _ => false
def w3 : List Int → Int
  | [_, _, c] => c
  | _ => 0
theorem cut1_eq (S : Nat) : ∀ t : List Int, (if cne S t = true then w3 t else 0) = cut1 S t
  | [a, b, c] => by
    show (if (!decide (bit S a.toNat = bit S b.toNat)) = true then c else 0) = if bit S a.toNat = bit S b.toNat then 0 else c
    by_cases h : bit S a.toNat = bit S b.toNat
    · rw [decide_eq_true h, if_pos h]
      rfl
    · rw [decide_eq_false h, if_neg h]
      rfl
  | [] => rfl
  | [_] => rfl
  | [_, _] => rfl
  | _ :: _ :: _ :: _ :: _ => rfl
theorem cut_sum (ts : List (List Int)) (S : Nat) : ((((List.range ts.length).filter fun i => cne S (ts.getD i [])).map fun i => w3 (ts.getD i [])).sum) = cutZ ts S := by
  rw [sum_filter, map_range_get (fun t => if cne S t = true then w3 t else 0) [] ts]
  unfold cutZ
  congr 1
  exact List.map_congr_left fun t _ => cut1_eq S t
theorem atI_neg1 {ns : List Int} (h : ns ≠ []) : atI (ns.map V.int) (-1) = some (.int (ns.getD (ns.length - 1) 0)) := by
  rcases List.eq_nil_or_concat ns with rfl | ⟨as, b, rfl⟩
  · exact absurd rfl h
  · rw [List.concat_eq_append, List.map_append]
    refine (atI_last _ _).trans ?_
    rw [List.length_append, List.getD_eq_getElem?_getD]
    show _ = some (V.int (((as ++ [b])[as.length + 1 - 1]?).getD 0))
    rw [Nat.add_sub_cancel, List.getElem?_append_right (Nat.le_refl _), Nat.sub_self]
    rfl
theorem atI_at {ns : List Int} {i : Nat} (h : i < ns.length) : atI (ns.map V.int) (i : Int) = some (.int (ns.getD i 0)) :=
  atI_nat (by rw [List.getElem?_map, List.getElem?_eq_getElem h, getD_at h]; rfl)
theorem ifT {b : Bool} {X Y : Prop} (hb : b = true) (h : X) : if b = true then X else Y := by rw [if_pos hb]; exact h
theorem ifF {b : Bool} {X Y : Prop} (hb : b = false) (h : Y) : if b = true then X else Y := by rw [if_neg (by rw [hb]; exact Bool.false_ne_true)]; exact h
theorem ndT {a b : Int} (h : a ≠ b) : (!decide (V.int a = V.int b)) = true := by rw [decide_eq_false fun z => h (V.int.inj z)]; rfl
theorem ndF {a b : Int} (h : a = b) : (!decide (V.int a = V.int b)) = false := by rw [decide_eq_true (congrArg V.int h)]; rfl
theorem datL_bools {H : Hp} : ∀ {bs : List Bool} {ys : List V}, DatL H (bs.map PyData.bool) ys → ys = bs.map V.bl
  | [], _, h => h.unnil
  | b :: bs, _, h => by
    obtain ⟨y, ys, rfl, r, t⟩ := DatL.uncons h
    rw [r.bool_of, datL_bools t]
    rfl
theorem nodup_rev {l : List Int} (h : l.Nodup) : l.reverse.Nodup := (List.reverse_perm l).nodup_iff.mpr h
theorem mem_take_idx {a : Int} : ∀ {ns : List Int} {k : Nat}, a ∈ ns → (a ∈ ns.take k ↔ idx ns a < k)
  | [], _, h => absurd h List.not_mem_nil
  | x :: r, 0, h => by
    rw [List.take_zero]
    exact ⟨fun z => absurd z List.not_mem_nil, fun z => absurd z (Nat.not_lt_zero _)⟩
  | x :: r, k + 1, h => by
    rw [List.take_succ_cons]
    by_cases e : x = a
    · subst e
      have : idx (x :: r) x = 0 := by unfold idx; rw [List.idxOf_cons_self]
      rw [this]
      exact ⟨fun _ => Nat.succ_pos _, fun _ => .head _⟩
    · rw [idx_cons e]
      have hr : a ∈ r := (List.mem_cons.mp h).elim (fun z => absurd z.symm e) id
      rw [List.mem_cons]
      have ih := mem_take_idx (ns := r) (k := k) hr
      constructor
      · rintro (z | z)
        · exact absurd z.symm e
        · have := ih.mp z
          omega
      · intro z
        exact .inr (ih.mpr (by omega))
def upTo (os : List Int) (g : Nat) : Nat := setOf (os.take g).reverse
theorem upTo_bits {n : Nat} (hn : n ≤ 5) {os : List Int} (ho : ordOk n os = true) (g : Nat) : upTo os g < 2 ^ n ∧ ∀ q : Nat, q < n → bit (upTo os g) q = decide (idx os (q : Int) < g) := by
  obtain ⟨h1, h2, h3⟩ := ordOk_of ho
  obtain ⟨a, b⟩ := setOf_bits hn (ps := (os.take g).reverse) (nodup_rev (h3.sublist (List.take_sublist _ _))) fun p hp => by
    have := h2 p (List.mem_of_mem_take (List.mem_reverse.mp hp))
    omega
  refine ⟨a, fun q hq => ?_⟩
  unfold upTo
  rw [b q hq]
  have hm := ord_all ho (k := (q : Int)) (by omega) (by omega)
  have := mem_take_idx (k := g) hm
  rw [Bool.eq_iff_iff, decide_eq_true_iff, decide_eq_true_iff, List.mem_reverse]
  exact this
theorem over_cut {n : Nat} (hn : n ≤ 5) {os : List Int} (ho : ordOk n os = true) {t : List Int} (ht : tieOk n t = true) (g : Nat) : over1 os g t = cut1 (upTo os (g + 1)) t := by
  obtain ⟨a, b, c, rfl, h1, h2, h3, h4, _, _⟩ := tieOk_three ht
  obtain ⟨a, rfl⟩ : ∃ m : Nat, a = m := ⟨a.toNat, by omega⟩
  obtain ⟨b, rfl⟩ : ∃ m : Nat, b = m := ⟨b.toNat, by omega⟩
  obtain ⟨_, hb⟩ := upTo_bits hn ho (g + 1)
  show (if min (idx os a) (idx os b) ≤ g ∧ g < max (idx os a) (idx os b) then c else 0) = if bit (upTo os (g + 1)) ((a : Int)).toNat = bit (upTo os (g + 1)) ((b : Int)).toNat then 0 else c
  rw [Int.toNat_natCast, Int.toNat_natCast, hb a (by omega), hb b (by omega)]
  by_cases c1 : idx os (a : Int) < g + 1
  · by_cases c2 : idx os (b : Int) < g + 1
    · rw [decide_eq_true c1, decide_eq_true c2, if_pos rfl, if_neg (by omega)]
    · rw [decide_eq_true c1, decide_eq_false c2, if_pos (show min (idx os (a : Int)) (idx os (b : Int)) ≤ g ∧ g < max (idx os (a : Int)) (idx os (b : Int)) by omega), if_neg (show ¬ (true = false) from fun z => Bool.noConfusion z)]
  · by_cases c2 : idx os (b : Int) < g + 1
    · rw [decide_eq_false c1, decide_eq_true c2, if_pos (show min (idx os (a : Int)) (idx os (b : Int)) ≤ g ∧ g < max (idx os (a : Int)) (idx os (b : Int)) by omega), if_neg Bool.false_ne_true]
    · rw [decide_eq_false c1, decide_eq_false c2, if_pos rfl, if_neg (by omega)]
theorem gap_cut {n : Nat} (hn : n ≤ 5) {os : List Int} (ho : ordOk n os = true) {ts : List (List Int)} (ht : ∀ t ∈ ts, tieOk n t = true) (g : Nat) : gapAt os ts g = cutZ ts (upTo os (g + 1)) := by
  unfold gapAt cutZ
  congr 1
  exact List.map_congr_left fun t h => over_cut hn ho (ht t h) g
theorem way_take {ts : List (List Int)} {os : List Int} : ∀ {k : Nat}, k ≤ os.length → way ts (os.take k).reverse = ((List.range k).map fun g => cutZ ts (upTo os (g + 1))).sum
  | 0, _ => rfl
  | k + 1, h => by
    have ih := way_take (ts := ts) (os := os) (k := k) (by omega)
    have e : (os.take (k + 1)).reverse = os[k] :: (os.take k).reverse := by
      rw [List.take_succ, List.getElem?_eq_getElem (by omega)]
      simp
    rw [List.range_succ, List.map_append, List.sum_append, ← ih]
    unfold upTo
    rw [e]
    show way ts (os.take k).reverse + cutZ ts (setOf (os[k] :: (os.take k).reverse)) = _
    simp only [List.map_cons, List.map_nil, List.sum_cons, List.sum_nil, Int.add_zero]
    rw [e]
theorem cut_full {n : Nat} (hn : n ≤ 5) {os : List Int} (ho : ordOk n os = true) {ts : List (List Int)} (ht : ∀ t ∈ ts, tieOk n t = true) : cutZ ts (upTo os n) = 0 := by
  obtain ⟨h1, _, _⟩ := ordOk_of ho
  obtain ⟨_, hb⟩ := upTo_bits hn ho n
  have z : ts.map (cut1 (upTo os n)) = ts.map fun _ => (0 : Int) := List.map_congr_left fun t h => by
    obtain ⟨a, b, c, rfl, h1, h2, h3, h4, _, _⟩ := tieOk_three (ht t h)
    obtain ⟨a, rfl⟩ : ∃ m : Nat, a = m := ⟨a.toNat, by omega⟩
    obtain ⟨b, rfl⟩ : ∃ m : Nat, b = m := ⟨b.toNat, by omega⟩
    have ia := idx_lt (ord_all ho (k := (a : Int)) (by omega) (by omega))
    have ib := idx_lt (ord_all ho (k := (b : Int)) (by omega) (by omega))
    show (if bit (upTo os n) ((a : Int)).toNat = bit (upTo os n) ((b : Int)).toNat then 0 else c) = 0
    rw [Int.toNat_natCast, Int.toNat_natCast, hb a (by omega), hb b (by omega), decide_eq_true (by omega), decide_eq_true (by omega), if_pos rfl]
  unfold cutZ
  rw [z, sum_zero]
theorem tot_way {n : Nat} (hn : n ≤ 5) {os : List Int} (ho : ordOk n os = true) {ts : List (List Int)} (ht : ∀ t ∈ ts, tieOk n t = true) : totF n os ts = way ts os.reverse := by
  obtain ⟨h1, _, _⟩ := ordOk_of ho
  have h1' : os.length = n := by omega
  unfold totF
  rw [← gaps_sum ho ht]
  have e := way_take (ts := ts) (os := os) (k := os.length) (Nat.le_refl _)
  rw [List.take_length] at e
  rw [e, h1']
  unfold gapsL
  have z : ((List.range ((n : Int) - 1).toNat).map (gapAt os ts)) = (List.range (n - 1)).map fun g => cutZ ts (upTo os (g + 1)) := by
    rw [show ((n : Int) - 1).toNat = n - 1 by omega]
    exact List.map_congr_left fun g _ => gap_cut hn ho ht g
  rw [z]
  cases n with
  | zero => rfl
  | succ m =>
    rw [List.range_succ, List.map_append, List.sum_append]
    show _ = _ + (cutZ ts (upTo os (m + 1)) + 0)
    rw [cut_full hn ho ht, Nat.add_sub_cancel]
    omega
theorem setOf_full {n : Nat} (hn : n ≤ 5) {os : List Int} (ho : ordOk n os = true) : setOf os.reverse = 2 ^ n - 1 := by
  obtain ⟨h1, h2, h3⟩ := ordOk_of ho
  have hb := upTo_bits hn ho n
  have e : upTo os n = setOf os.reverse := by
    unfold upTo
    rw [List.take_of_length_le (by omega)]
  rw [e] at hb
  have hp := two_pos n
  refine bits_ext _ (lt32 hn hb.1) _ (lt32 hn (by omega)) fun q hq => ?_
  by_cases c : q < n
  · rw [hb.2 q c, bits_full n (by omega) q c]
    exact decide_eq_true (by have := idx_lt (ord_all ho (k := (q : Int)) (by omega) (by omega)); omega)
  · rw [bit_out hb.1 (by omega), bit_out (n := n) (by omega) (by omega)]
theorem tot_most {n : Nat} (hn : n ≤ 5) {os : List Int} (ho : ordOk n os = true) {ts : List (List Int)} (ht : ∀ t ∈ ts, tieOk n t = true) {T : Nat → Int} (h0 : T 0 ≤ 0)
    (hT : ∀ S p, S < 2 ^ n → p < n → bit S p = false → T (S + 2 ^ p) ≤ T S + cutZ ts (S + 2 ^ p)) : T (2 ^ n - 1) ≤ totF n os ts := by
  obtain ⟨h1, h2, h3⟩ := ordOk_of ho
  rw [tot_way hn ho ht, ← setOf_full hn ho]
  exact way_most hn h0 hT (nodup_rev h3) fun p hp => by have := h2 p (List.mem_reverse.mp hp); omega
theorem price_some {n : Nat} (hn : n ≤ 5) {ts : List (List Int)} (ht : ∀ t ∈ ts, tieOk n t = true) : ∃ os, ordOk n os = true ∧ totF n os ts = price n ts (2 ^ n - 1) := by
  have hp := two_pos n
  obtain ⟨ps, d, b, m, e⟩ := price_way hn (ts := ts) (2 ^ n - 1) (2 ^ n - 1) (Nat.le_refl _) (by omega)
  obtain ⟨_, hb⟩ := setOf_bits hn d b
  have ho : ordOk n ps.reverse = true := by
    refine ordOk_perm ((List.perm_ext_iff_of_nodup (nodup_rev d) (nodup_upto n)).mpr fun x => ?_)
    rw [List.mem_reverse, upto_mem]
    constructor
    · intro h
      have := b x h
      omega
    · intro h
      obtain ⟨q, rfl⟩ : ∃ q : Nat, x = q := ⟨x.toNat, by omega⟩
      have z := hb q (by omega)
      rw [m, bits_full n (by omega) q (by omega)] at z
      exact of_decide_eq_true z.symm
  refine ⟨ps.reverse, ho, ?_⟩
  rw [tot_way hn ho ht, List.reverse_reverse, e]
theorem price_least {n : Nat} (hn : n ≤ 5) {ts : List (List Int)} (ht : ∀ t ∈ ts, tieOk n t = true) {L : List (List Int)} (hL : ∀ os, os ∈ L ↔ ordOk n os = true) {M : Int} (hM : IsMin (L.map fun os => totF n os ts) M) : M = price n ts (2 ^ n - 1) := by
  obtain ⟨os, ho, e⟩ := price_some hn ht
  obtain ⟨hm, hle⟩ := hM
  have a := hle _ (List.mem_map.mpr ⟨os, (hL os).mpr ho, rfl⟩)
  obtain ⟨os2, h2, rfl⟩ := List.mem_map.mp hm
  have b := tot_most hn ((hL os2).mp h2) ht (T := price n ts) (Int.le_refl _) fun S p hS hp hb => price_step hn hS hp hb
  rw [e] at a
  exact Int.le_antisymm a b
def extOf (n : Nat) (o : List Int) : List (List Int) := ((upto n).filter fun p => !decide (p ∈ o)).map fun p => o ++ [p]
def allTo (n : Nat) : Nat → List (List Int)
  | 0 => [[]]
  | k + 1 => (allTo n k).flatMap (extOf n)
theorem mem_ext {n : Nat} {o os : List Int} : os ∈ extOf n o ↔ ∃ p : Int, 0 ≤ p ∧ p < n ∧ p ∉ o ∧ os = o ++ [p] := by
  unfold extOf
  rw [List.mem_map]
  constructor
  · rintro ⟨p, hp, rfl⟩
    rw [List.mem_filter, upto_mem] at hp
    exact ⟨p, hp.1.1, hp.1.2, by simpa using hp.2, rfl⟩
  · rintro ⟨p, h1, h2, h3, rfl⟩
    exact ⟨p, List.mem_filter.mpr ⟨upto_mem.mpr ⟨h1, h2⟩, by simpa using h3⟩, rfl⟩
theorem mem_allTo {n : Nat} : ∀ {k : Nat} {os : List Int}, os ∈ allTo n k ↔ os.length = k ∧ os.Nodup ∧ ∀ p ∈ os, 0 ≤ p ∧ p < n
  | 0, os => by
    show os ∈ [[]] ↔ _
    rw [List.mem_singleton]
    constructor
    · rintro rfl
      exact ⟨rfl, List.nodup_nil, fun p h => absurd h List.not_mem_nil⟩
    · intro h
      exact List.length_eq_zero_iff.mp h.1
  | k + 1, os => by
    show os ∈ (allTo n k).flatMap (extOf n) ↔ _
    rw [List.mem_flatMap]
    constructor
    · rintro ⟨o, ho, h⟩
      obtain ⟨p, h1, h2, h3, rfl⟩ := mem_ext.mp h
      obtain ⟨a, b, c⟩ := mem_allTo.mp ho
      refine ⟨by rw [List.length_append, a]; rfl, ?_, fun x hx => ?_⟩
      · rw [List.nodup_append]
        refine ⟨b, List.nodup_cons.mpr ⟨List.not_mem_nil, List.nodup_nil⟩, fun x hx y hy e => ?_⟩
        rw [List.mem_singleton.mp hy] at e
        exact h3 (e ▸ hx)
      · rcases List.mem_append.mp hx with z | z
        · exact c x z
        · rw [List.mem_singleton.mp z]
          exact ⟨h1, h2⟩
    · rintro ⟨a, b, c⟩
      rcases List.eq_nil_or_concat os with rfl | ⟨o, p, rfl⟩
      · cases a
      · rw [List.concat_eq_append] at a b c ⊢
        rw [List.nodup_append] at b
        refine ⟨o, mem_allTo.mpr ⟨by rw [List.length_append] at a; exact Nat.succ.inj a, b.1, fun x hx => c x (List.mem_append.mpr (.inl hx))⟩, mem_ext.mpr ⟨p, ?_, ?_, ?_, rfl⟩⟩
        · exact (c p (List.mem_append.mpr (.inr (.head _)))).1
        · exact (c p (List.mem_append.mpr (.inr (.head _)))).2
        · intro hp
          exact b.2.2 p hp p (.head _) rfl
theorem allTo_ord {n : Nat} (os : List Int) : os ∈ allTo n n ↔ ordOk n os = true := by
  rw [mem_allTo]
  constructor
  · rintro ⟨a, b, c⟩
    exact ordOk_mk (by omega) (fun k hk => by have := c k hk; omega) b
  · intro h
    obtain ⟨a, b, c⟩ := ordOk_of h
    exact ⟨by omega, c, fun k hk => by have := b k hk; omega⟩
theorem ext_len {n : Nat} (o : List Int) : (extOf n o).length ≤ n := by
  unfold extOf
  rw [List.length_map]
  exact Nat.le_trans (List.length_filter_le _ _) (by rw [upto_len]; exact Nat.le_refl _)
theorem flat_len {n : Nat} (hn : n ≤ 5) : ∀ L : List (List Int), (L.flatMap (extOf n)).length ≤ 5 * L.length
  | [] => Nat.le_refl _
  | o :: L => by
    rw [List.flatMap_cons, List.length_append, List.length_cons]
    have := ext_len (n := n) o
    have := flat_len hn L
    omega
theorem all_len {n : Nat} (hn : n ≤ 5) : ∀ k, (allTo n k).length ≤ 5 ^ k
  | 0 => Nat.le_refl _
  | k + 1 => by
    have := flat_len hn (allTo n k)
    have := all_len hn k
    show ((allTo n k).flatMap (extOf n)).length ≤ 5 ^ k * 5
    omega
def spTwo : Sp := fun vs H Q _ => ∃ n : Nat, vs = [.int n] ∧ n ≤ 5 ∧ ∀ H', Same H H' → Q (.int ((2 ^ n : Nat) : Int)) H'
theorem two_at {n : Nat} (h : n ≤ 5) : atI [V.int 1, V.int 2, V.int 4, V.int 8, V.int 16, V.int 32] (n : Int) = some (.int ((2 ^ n : Nat) : Int)) := by
  have : n = 0 ∨ n = 1 ∨ n = 2 ∨ n = 3 ∨ n = 4 ∨ n = 5 := by omega
  rcases this with rfl | rfl | rfl | rfl | rfl | rfl <;> rfl
def spLCut : Sp := fun vs H Q _ => ∃ (v : V) (n : Nat) (ts : List (List Int)) (S : Nat), vs = [v, .int S] ∧ Dat H (webD n ts) v ∧ webOk n ts = true ∧ WebIn n ts ∧ n ≤ 5 ∧ ∀ H', Same H H' → Q (.int (cutZ ts S)) H'
theorem bit_div {S a : Nat} : (S : Int) / ((2 ^ a : Nat) : Int) % 2 = ((S / 2 ^ a % 2 : Nat) : Int) := by
  rw [← Int.natCast_ediv]
  rfl
theorem bit_one {S a : Nat} : decide (V.int ((S / 2 ^ a % 2 : Nat) : Int) = V.int 1) = bit S a := by
  unfold bit
  rw [Bool.eq_iff_iff, decide_eq_true_iff, beq_iff_eq]
  exact ⟨fun h => by have := V.int.inj h; omega, fun h => by rw [h]; rfl⟩
theorem bit_nil {S a : Nat} : decide (V.int ((S / 2 ^ a % 2 : Nat) : Int) = V.int 0) = !bit S a := by
  have hm : S / 2 ^ a % 2 < 2 := Nat.mod_lt _ (by decide)
  unfold bit
  rw [Bool.eq_iff_iff, decide_eq_true_iff, Bool.not_eq_true', beq_eq_false_iff_ne]
  exact ⟨fun h => by have := V.int.inj h; omega, fun h => by rw [show S / 2 ^ a % 2 = 0 by omega]; rfl⟩
theorem bit_same {S a b : Nat} : (!decide (V.int ((S / 2 ^ a % 2 : Nat) : Int) = V.int ((S / 2 ^ b % 2 : Nat) : Int))) = !decide (bit S a = bit S b) := by
  have h1 : S / 2 ^ a % 2 < 2 := Nat.mod_lt _ (by decide)
  have h2 : S / 2 ^ b % 2 < 2 := Nat.mod_lt _ (by decide)
  congr 1
  rw [Bool.eq_iff_iff, decide_eq_true_iff, decide_eq_true_iff]
  unfold bit
  constructor
  · intro h
    have := V.int.inj h
    rw [show S / 2 ^ a % 2 = S / 2 ^ b % 2 by omega]
  · intro h
    rw [Bool.eq_iff_iff, beq_iff_eq, beq_iff_eq] at h
    rw [show S / 2 ^ a % 2 = S / 2 ^ b % 2 by omega]
def spLPrices : Sp := fun vs H Q _ => ∃ (v : V) (n : Nat) (ts : List (List Int)), vs = [v] ∧ Dat H (webD n ts) v ∧ webOk n ts = true ∧ WebIn n ts ∧ n ≤ 5 ∧
  ∀ l H', H l = none → Same H H' → H' l = some (.lst ((prs n ts (2 ^ n)).map .int)) → Q (.ref l) H'
def spLDue : Sp := fun vs H Q _ => ∃ (v : V) (l : Addr) (n : Nat) (ts : List (List Int)) (bound : Int) (ns : List Int), vs = [v, .int bound, .ref l] ∧ Dat H (webD n ts) v ∧ webOk n ts = true ∧ WebIn n ts ∧ n ≤ 5 ∧ H l = some (.lst (ns.map .int)) ∧ ns ≠ [] ∧ ns.length ≤ 1000 ∧
  ∀ H', Same H H' → Q (.bl (showsB n ts bound ns)) H'
theorem keeps_iff {n : Nat} (hn : n ≤ 5) {ts : List (List Int)} {ns : List Int} : keepsTo n ts ns (2 ^ n) = true ↔ ∀ S p, S < 2 ^ n → p < n → bit S p = false → ns.getD (S + 2 ^ p) 0 ≤ ns.getD S 0 + cutZ ts (S + 2 ^ p) := by
  unfold keepsTo
  rw [List.all_eq_true]
  constructor
  · intro h S p hS hp hb
    have hlt := bits_lt n (by omega) S hS p hp hb
    have h1 := two_pos p
    have z := h (S + 2 ^ p) (List.mem_range.mpr hlt)
    rw [Bool.or_eq_true] at z
    rcases z with z | z
    · exact absurd (of_decide_eq_true z) (by omega)
    · have z := of_decide_eq_true z
      have hbp : bit (S + 2 ^ p) p = true := by
        rw [bits_put S (lt32 hn hS) p (by omega) p (by omega) hb, decide_eq_true rfl]
        rfl
      have hm : S ∈ fewer n (S + 2 ^ p) := by
        unfold fewer
        exact List.mem_map.mpr ⟨p, spots_mem.mpr ⟨hp, hbp⟩, by omega⟩
      have := (minL_is (ns := (fewer n (S + 2 ^ p)).map fun f => ns.getD f 0) (fun e => by rw [List.map_eq_nil_iff.mp e] at hm; cases hm)).2 _ (List.mem_map.mpr ⟨S, hm, rfl⟩)
      omega
  · intro h S hS
    have hS := List.mem_range.mp hS
    rw [Bool.or_eq_true]
    by_cases c : S = 0
    · exact .inl (decide_eq_true c)
    · refine .inr (decide_eq_true ?_)
      have hne := fewer_ne hn hS c
      obtain ⟨hm, _⟩ := minL_is (ns := (fewer n S).map fun f => ns.getD f 0) (fun e => hne (List.map_eq_nil_iff.mp e))
      obtain ⟨f, hf, ef⟩ := List.mem_map.mp hm
      unfold fewer at hf
      obtain ⟨p, hp, rfl⟩ := List.mem_map.mp hf
      obtain ⟨hp1, hp2⟩ := spots_mem.mp hp
      obtain ⟨_, hle, hoff⟩ := bit_off hn hS hp2
      have := h (S - 2 ^ p) p (Nat.lt_of_le_of_lt (Nat.sub_le _ _) hS) hp1 hoff
      rw [show S - 2 ^ p + 2 ^ p = S by omega, ef] at this
      exact this
def spLRefused : Sp := fun vs H Q _ => ∃ (way : Int) (v : V), vs = [.int way, v] ∧ Dat H (webD 9 []) v ∧ ∀ H', Same H H' → Q (.str "web") H'
def spLAll : Sp := fun vs H Q _ => ∃ n : Nat, vs = [.int n] ∧ n ≤ 5 ∧ ∀ v H', Same H H' → Dat H' (.list ((allTo n n).map ordD)) v → Q v H'
theorem ord_of {H : Hp} {ns : List Int} {v : V} (h : Dat H (ordD ns) v) : ∃ l, v = .ref l ∧ H l = some (.lst (ns.map .int)) := by
  obtain ⟨l, xs, rfl, hl, d⟩ := h.list_of
  rw [d.ints_of] at hl
  exact ⟨l, rfl, hl⟩
theorem in_ints (p : Int) : ∀ o : List Int, inV (.int p) (o.map V.int) = decide (p ∈ o)
  | [] => rfl
  | a :: o => by
    have e : eqV (.int a) (.int p) = decide (p = a) := by
      show (a == p) = _
      by_cases c : p = a
      · subst c; simp
      · rw [decide_eq_false c]; exact beq_eq_false_iff_ne.mpr fun z => c z.symm
    show (eqV (.int a) (.int p) || inV (.int p) (o.map V.int)) = _
    rw [e, in_ints p o]
    by_cases c1 : p = a <;> by_cases c2 : p ∈ o <;> simp [c1, c2]
theorem iteOf {b c : Bool} {X Y : Prop} (h : b = c) (h1 : c = true → X) (h2 : c = false → Y) : if b = true then X else Y := by
  subst h
  cases b with
  | true => exact h1 rfl
  | false => exact h2 rfl
end My
set_option Elab.async false
set_option linter.all false
set_option maxRecDepth 100000
set_option maxHeartbeats 4000000
namespace My
open PySem L2 PySem.Spec PyProof.Rows
def top (i : Nat) : Stmt := PySem.Challenge.pw_rowlay_k20_whole_prices.main.body.getD i (.Pass ⟨0, 0, 0, 0⟩)
abbrev s_set_count : Stmt := top 1
abbrev s_holds : Stmt := top 2
abbrev s_place_fewer : Stmt := top 3
abbrev s_least_before : Stmt := top 4
abbrev s_leading_out : Stmt := top 5
abbrev s_is_whole : Stmt := top 16
abbrev s_is_within : Stmt := top 17
abbrev s_is_tie : Stmt := top 18
abbrev s_look_ties : Stmt := top 19
abbrev s_look_web : Stmt := top 20
abbrev s_prices : Stmt := top 22
abbrev s_least_total : Stmt := top 23
abbrev s_shows_total : Stmt := top 24
abbrev s_law_cell : Stmt := top 26
abbrev s_law_mix : Stmt := top 27
abbrev s_law_whole : Stmt := top 28
abbrev s_law_web : Stmt := top 29
abbrev s_law_order : Stmt := top 30
abbrev s_law_lengths : Stmt := top 31
abbrev s_law_gaps : Stmt := top 32
abbrev s_law_measured : Stmt := top 33
abbrev s_law_all : Stmt := top 34
abbrev s_law_refusal : Stmt := top 35
abbrev s_law_two : Stmt := top 36
abbrev s_law_cut : Stmt := top 37
abbrev s_law_prices : Stmt := top 38
abbrev s_law_due : Stmt := top 39
abbrev s_law_refused : Stmt := top 40
abbrev s_law : Stmt := top 41
abbrev bmV : List Value := [.type "ValueError", .type "Exception", .type "BaseException", .type "object"]
structure Ad where
  set_count : Addr
  holds : Addr
  place_fewer : Addr
  least_before : Addr
  leading_out : Addr
  is_whole : Addr
  is_within : Addr
  is_tie : Addr
  look_ties : Addr
  look_web : Addr
  prices : Addr
  least_total : Addr
  shows_total : Addr
  law_cell : Addr
  law_mix : Addr
  law_whole : Addr
  law_web : Addr
  law_order : Addr
  law_lengths : Addr
  law_gaps : Addr
  law_measured : Addr
  law_all : Addr
  law_refusal : Addr
  law_two : Addr
  law_cut : Addr
  law_prices : Addr
  law_due : Addr
  law_refused : Addr
  law : Addr
  LayError : Addr
  BadWeb : Addr
  BadOrder : Addr
  BadSpot : Addr
  BadKind : Addr
  BadText : Addr
abbrev Ad.er (A : Ad) : Er := ⟨A.LayError, A.BadWeb, A.BadOrder, A.BadSpot, A.BadKind, A.BadText⟩
structure FD where
  set_count : FuncData
  holds : FuncData
  place_fewer : FuncData
  least_before : FuncData
  leading_out : FuncData
  is_whole : FuncData
  is_within : FuncData
  is_tie : FuncData
  look_ties : FuncData
  look_web : FuncData
  prices : FuncData
  least_total : FuncData
  shows_total : FuncData
  law_cell : FuncData
  law_mix : FuncData
  law_whole : FuncData
  law_web : FuncData
  law_order : FuncData
  law_lengths : FuncData
  law_gaps : FuncData
  law_measured : FuncData
  law_all : FuncData
  law_refusal : FuncData
  law_two : FuncData
  law_cut : FuncData
  law_prices : FuncData
  law_due : FuncData
  law_refused : FuncData
  law : FuncData
structure Txt (K : PySem.W.Frag) (mg : Str → Option Value) (A : Ad) (D : FD) : Prop where
  F_set_count : Fun K "set_count" "set_count" s_set_count A.set_count D.set_count
  m_set_count : mg "set_count" = some (.ref A.set_count)
  b_set_count : Binds K D.set_count ["places"] []
  F_holds : Fun K "holds" "holds" s_holds A.holds D.holds
  m_holds : mg "holds" = some (.ref A.holds)
  b_holds : Binds K D.holds ["some", "place"] []
  F_place_fewer : Fun K "place_fewer" "place_fewer" s_place_fewer A.place_fewer D.place_fewer
  m_place_fewer : mg "place_fewer" = some (.ref A.place_fewer)
  b_place_fewer : Binds K D.place_fewer ["some"] []
  F_least_before : Fun K "least_before" "least_before" s_least_before A.least_before D.least_before
  m_least_before : mg "least_before" = some (.ref A.least_before)
  b_least_before : Binds K D.least_before ["numbers", "some"] []
  F_leading_out : Fun K "leading_out" "leading_out" s_leading_out A.leading_out D.leading_out
  m_leading_out : mg "leading_out" = some (.ref A.leading_out)
  b_leading_out : Binds K D.leading_out ["web"] []
  F_is_whole : Fun K "is_whole" "is_whole" s_is_whole A.is_whole D.is_whole
  m_is_whole : mg "is_whole" = some (.ref A.is_whole)
  b_is_whole : Binds K D.is_whole ["value"] []
  F_is_within : Fun K "is_within" "is_within" s_is_within A.is_within D.is_within
  m_is_within : mg "is_within" = some (.ref A.is_within)
  b_is_within : Binds K D.is_within ["value", "least", "greatest"] []
  F_is_tie : Fun K "is_tie" "is_tie" s_is_tie A.is_tie D.is_tie
  m_is_tie : mg "is_tie" = some (.ref A.is_tie)
  b_is_tie : Binds K D.is_tie ["tie", "places"] []
  F_look_ties : Fun K "look_ties" "look_ties" s_look_ties A.look_ties D.look_ties
  m_look_ties : mg "look_ties" = some (.ref A.look_ties)
  b_look_ties : Binds K D.look_ties ["places", "ties"] []
  F_look_web : Fun K "look_web" "look_web" s_look_web A.look_web D.look_web
  m_look_web : mg "look_web" = some (.ref A.look_web)
  b_look_web : Binds K D.look_web ["web"] []
  F_prices : Fun K "prices" "prices" s_prices A.prices D.prices
  m_prices : mg "prices" = some (.ref A.prices)
  b_prices : Binds K D.prices ["web"] []
  F_least_total : Fun K "least_total" "least_total" s_least_total A.least_total D.least_total
  m_least_total : mg "least_total" = some (.ref A.least_total)
  b_least_total : Binds K D.least_total ["web"] []
  F_shows_total : Fun K "shows_total" "shows_total" s_shows_total A.shows_total D.shows_total
  m_shows_total : mg "shows_total" = some (.ref A.shows_total)
  b_shows_total : Binds K D.shows_total ["web", "bound", "paper"] []
  F_law_cell : Fun K "_law_cell" "_law_cell" s_law_cell A.law_cell D.law_cell
  m_law_cell : mg "_law_cell" = some (.ref A.law_cell)
  b_law_cell : Binds K D.law_cell ["_law_script", "_law_k"] []
  F_law_mix : Fun K "_law_mix" "_law_mix" s_law_mix A.law_mix D.law_mix
  m_law_mix : mg "_law_mix" = some (.ref A.law_mix)
  b_law_mix : Binds K D.law_mix ["_law_script", "_law_k"] []
  F_law_whole : Fun K "_law_whole" "_law_whole" s_law_whole A.law_whole D.law_whole
  m_law_whole : mg "_law_whole" = some (.ref A.law_whole)
  b_law_whole : Binds K D.law_whole ["_law_found"] []
  F_law_web : Fun K "_law_web" "_law_web" s_law_web A.law_web D.law_web
  m_law_web : mg "_law_web" = some (.ref A.law_web)
  b_law_web : Binds K D.law_web ["_law_script", "_law_k", "_law_places"] []
  F_law_order : Fun K "_law_order" "_law_order" s_law_order A.law_order D.law_order
  m_law_order : mg "_law_order" = some (.ref A.law_order)
  b_law_order : Binds K D.law_order ["_law_script", "_law_k", "_law_many"] []
  F_law_lengths : Fun K "_law_lengths" "_law_lengths" s_law_lengths A.law_lengths D.law_lengths
  m_law_lengths : mg "_law_lengths" = some (.ref A.law_lengths)
  b_law_lengths : Binds K D.law_lengths ["_law_web_here", "_law_order_here"] []
  F_law_gaps : Fun K "_law_gaps" "_law_gaps" s_law_gaps A.law_gaps D.law_gaps
  m_law_gaps : mg "_law_gaps" = some (.ref A.law_gaps)
  b_law_gaps : Binds K D.law_gaps ["_law_web_here", "_law_order_here"] []
  F_law_measured : Fun K "_law_measured" "_law_measured" s_law_measured A.law_measured D.law_measured
  m_law_measured : mg "_law_measured" = some (.ref A.law_measured)
  b_law_measured : Binds K D.law_measured ["_law_web_here", "_law_kind", "_law_order_here"] []
  F_law_all : Fun K "_law_all" "_law_all" s_law_all A.law_all D.law_all
  m_law_all : mg "_law_all" = some (.ref A.law_all)
  b_law_all : Binds K D.law_all ["_law_many"] []
  F_law_refusal : Fun K "_law_refusal" "_law_refusal" s_law_refusal A.law_refusal D.law_refusal
  m_law_refusal : mg "_law_refusal" = some (.ref A.law_refusal)
  b_law_refusal : Binds K D.law_refusal ["_law_kept"] []
  F_law_two : Fun K "_law_two" "_law_two" s_law_two A.law_two D.law_two
  m_law_two : mg "_law_two" = some (.ref A.law_two)
  b_law_two : Binds K D.law_two ["_law_many"] []
  F_law_cut : Fun K "_law_cut" "_law_cut" s_law_cut A.law_cut D.law_cut
  m_law_cut : mg "_law_cut" = some (.ref A.law_cut)
  b_law_cut : Binds K D.law_cut ["_law_web_here", "_law_some"] []
  F_law_prices : Fun K "_law_prices" "_law_prices" s_law_prices A.law_prices D.law_prices
  m_law_prices : mg "_law_prices" = some (.ref A.law_prices)
  b_law_prices : Binds K D.law_prices ["_law_web_here"] []
  F_law_due : Fun K "_law_due" "_law_due" s_law_due A.law_due D.law_due
  m_law_due : mg "_law_due" = some (.ref A.law_due)
  b_law_due : Binds K D.law_due ["_law_web_here", "_law_bound", "_law_table"] []
  F_law_refused : Fun K "_law_refused" "_law_refused" s_law_refused A.law_refused D.law_refused
  m_law_refused : mg "_law_refused" = some (.ref A.law_refused)
  b_law_refused : Binds K D.law_refused ["_law_way", "_law_web_here"] []
  F_law : Fun K "law" "law" s_law A.law D.law
  m_law : mg "law" = some (.ref A.law)
  b_law : Binds K D.law ["_law_script"] []
  bl_law : ∀ (s : Shared) (u : Value), BindsTo s D.law ⟨[u], []⟩ [("_law_script", u)]
  m_LayError : mg "LayError" = some (.ref A.LayError)
  x_LayError : PySem.W.excIn K A.LayError bmV "ValueError.__new__" = true
  m_BadWeb : mg "BadWeb" = some (.ref A.BadWeb)
  x_BadWeb : PySem.W.excIn K A.BadWeb bmV "ValueError.__new__" = true
  l_BadWeb : ExcLook K A.BadWeb
  s_BadWeb : PySem.W.mroIn K A.BadWeb (.ref A.LayError) = some true
  v_BadWeb : PySem.W.kitOne K (.ref A.BadWeb) (.type "ValueError") = some true
  m_BadOrder : mg "BadOrder" = some (.ref A.BadOrder)
  x_BadOrder : PySem.W.excIn K A.BadOrder bmV "ValueError.__new__" = true
  l_BadOrder : ExcLook K A.BadOrder
  s_BadOrder : PySem.W.mroIn K A.BadOrder (.ref A.LayError) = some true
  v_BadOrder : PySem.W.kitOne K (.ref A.BadOrder) (.type "ValueError") = some true
  m_BadSpot : mg "BadSpot" = some (.ref A.BadSpot)
  x_BadSpot : PySem.W.excIn K A.BadSpot bmV "ValueError.__new__" = true
  l_BadSpot : ExcLook K A.BadSpot
  s_BadSpot : PySem.W.mroIn K A.BadSpot (.ref A.LayError) = some true
  v_BadSpot : PySem.W.kitOne K (.ref A.BadSpot) (.type "ValueError") = some true
  m_BadKind : mg "BadKind" = some (.ref A.BadKind)
  x_BadKind : PySem.W.excIn K A.BadKind bmV "ValueError.__new__" = true
  l_BadKind : ExcLook K A.BadKind
  s_BadKind : PySem.W.mroIn K A.BadKind (.ref A.LayError) = some true
  v_BadKind : PySem.W.kitOne K (.ref A.BadKind) (.type "ValueError") = some true
  m_BadText : mg "BadText" = some (.ref A.BadText)
  x_BadText : PySem.W.excIn K A.BadText bmV "ValueError.__new__" = true
  l_BadText : ExcLook K A.BadText
  s_BadText : PySem.W.mroIn K A.BadText (.ref A.LayError) = some true
  v_BadText : PySem.W.kitOne K (.ref A.BadText) (.type "ValueError") = some true
  i_BadWeb_BadWeb : PySem.W.kitOne K (.ref A.BadWeb) (.ref A.BadWeb) = some true
  i_BadWeb_BadOrder : PySem.W.kitOne K (.ref A.BadWeb) (.ref A.BadOrder) = some false
  i_BadWeb_BadSpot : PySem.W.kitOne K (.ref A.BadWeb) (.ref A.BadSpot) = some false
  i_BadWeb_BadKind : PySem.W.kitOne K (.ref A.BadWeb) (.ref A.BadKind) = some false
  i_BadWeb_BadText : PySem.W.kitOne K (.ref A.BadWeb) (.ref A.BadText) = some false
  i_BadOrder_BadWeb : PySem.W.kitOne K (.ref A.BadOrder) (.ref A.BadWeb) = some false
  i_BadOrder_BadOrder : PySem.W.kitOne K (.ref A.BadOrder) (.ref A.BadOrder) = some true
  i_BadOrder_BadSpot : PySem.W.kitOne K (.ref A.BadOrder) (.ref A.BadSpot) = some false
  i_BadOrder_BadKind : PySem.W.kitOne K (.ref A.BadOrder) (.ref A.BadKind) = some false
  i_BadOrder_BadText : PySem.W.kitOne K (.ref A.BadOrder) (.ref A.BadText) = some false
  i_BadSpot_BadWeb : PySem.W.kitOne K (.ref A.BadSpot) (.ref A.BadWeb) = some false
  i_BadSpot_BadOrder : PySem.W.kitOne K (.ref A.BadSpot) (.ref A.BadOrder) = some false
  i_BadSpot_BadSpot : PySem.W.kitOne K (.ref A.BadSpot) (.ref A.BadSpot) = some true
  i_BadSpot_BadKind : PySem.W.kitOne K (.ref A.BadSpot) (.ref A.BadKind) = some false
  i_BadSpot_BadText : PySem.W.kitOne K (.ref A.BadSpot) (.ref A.BadText) = some false
  i_BadKind_BadWeb : PySem.W.kitOne K (.ref A.BadKind) (.ref A.BadWeb) = some false
  i_BadKind_BadOrder : PySem.W.kitOne K (.ref A.BadKind) (.ref A.BadOrder) = some false
  i_BadKind_BadSpot : PySem.W.kitOne K (.ref A.BadKind) (.ref A.BadSpot) = some false
  i_BadKind_BadKind : PySem.W.kitOne K (.ref A.BadKind) (.ref A.BadKind) = some true
  i_BadKind_BadText : PySem.W.kitOne K (.ref A.BadKind) (.ref A.BadText) = some false
  i_BadText_BadWeb : PySem.W.kitOne K (.ref A.BadText) (.ref A.BadWeb) = some false
  i_BadText_BadOrder : PySem.W.kitOne K (.ref A.BadText) (.ref A.BadOrder) = some false
  i_BadText_BadSpot : PySem.W.kitOne K (.ref A.BadText) (.ref A.BadSpot) = some false
  i_BadText_BadKind : PySem.W.kitOne K (.ref A.BadText) (.ref A.BadKind) = some false
  i_BadText_BadText : PySem.W.kitOne K (.ref A.BadText) (.ref A.BadText) = some true
  g_MOST_PLACES : ∃ t, mg "MOST_PLACES" = some (.int 8 t)
  g_MOST_WEIGHT : ∃ t, mg "MOST_WEIGHT" = some (.int 100 t)
  z_abs : mg "abs" = none
  z_all : mg "all" = none
  z_bool : mg "bool" = none
  z_int : mg "int" = none
  z_isinstance : mg "isinstance" = none
  z_len : mg "len" = none
  z_list : mg "list" = none
  z_max : mg "max" = none
  z_min : mg "min" = none
  z_range : mg "range" = none
  z_sorted : mg "sorted" = none
  z_sum : mg "sum" = none
  z_tuple : mg "tuple" = none
  z_ValueError : mg "ValueError" = none
  k_bool_bool : PySem.W.kitOne K (.type "bool") (.type "bool") = some true
  k_bool_int : PySem.W.kitOne K (.type "bool") (.type "int") = some true
  k_bool_str : PySem.W.kitOne K (.type "bool") (.type "str") = some false
  k_bool_list : PySem.W.kitOne K (.type "bool") (.type "list") = some false
  k_bool_tuple : PySem.W.kitOne K (.type "bool") (.type "tuple") = some false
  k_int_bool : PySem.W.kitOne K (.type "int") (.type "bool") = some false
  k_int_int : PySem.W.kitOne K (.type "int") (.type "int") = some true
  k_int_str : PySem.W.kitOne K (.type "int") (.type "str") = some false
  k_int_list : PySem.W.kitOne K (.type "int") (.type "list") = some false
  k_int_tuple : PySem.W.kitOne K (.type "int") (.type "tuple") = some false
  k_str_bool : PySem.W.kitOne K (.type "str") (.type "bool") = some false
  k_str_int : PySem.W.kitOne K (.type "str") (.type "int") = some false
  k_str_str : PySem.W.kitOne K (.type "str") (.type "str") = some true
  k_str_list : PySem.W.kitOne K (.type "str") (.type "list") = some false
  k_str_tuple : PySem.W.kitOne K (.type "str") (.type "tuple") = some false
  k_list_bool : PySem.W.kitOne K (.type "list") (.type "bool") = some false
  k_list_int : PySem.W.kitOne K (.type "list") (.type "int") = some false
  k_list_str : PySem.W.kitOne K (.type "list") (.type "str") = some false
  k_list_list : PySem.W.kitOne K (.type "list") (.type "list") = some true
  k_list_tuple : PySem.W.kitOne K (.type "list") (.type "tuple") = some false
  k_tuple_bool : PySem.W.kitOne K (.type "tuple") (.type "bool") = some false
  k_tuple_int : PySem.W.kitOne K (.type "tuple") (.type "int") = some false
  k_tuple_str : PySem.W.kitOne K (.type "tuple") (.type "str") = some false
  k_tuple_list : PySem.W.kitOne K (.type "tuple") (.type "list") = some false
  k_tuple_tuple : PySem.W.kitOne K (.type "tuple") (.type "tuple") = some true
theorem txt_mk {K : PySem.W.Frag} {h : Heap} {mg : Str → Option Value} (X : K.In h) (G : h.Ns mainGlobals mg)
    {f_set_count : Addr} {od0 an0 : Option Addr} {sl0 : Array (Option Value)} {oc0 kV0 dc0 pm0 cd0 ct0 : Value}
    {f_holds : Addr} {od1 an1 : Option Addr} {sl1 : Array (Option Value)} {oc1 kV1 dc1 pm1 cd1 ct1 : Value}
    {f_place_fewer : Addr} {od2 an2 : Option Addr} {sl2 : Array (Option Value)} {oc2 kV2 dc2 pm2 cd2 ct2 : Value}
    {f_least_before : Addr} {od3 an3 : Option Addr} {sl3 : Array (Option Value)} {oc3 kV3 dc3 pm3 cd3 ct3 : Value}
    {f_leading_out : Addr} {od4 an4 : Option Addr} {sl4 : Array (Option Value)} {oc4 kV4 dc4 pm4 cd4 ct4 : Value}
    {f_is_whole : Addr} {od5 an5 : Option Addr} {sl5 : Array (Option Value)} {oc5 kV5 dc5 pm5 cd5 ct5 : Value}
    {f_is_within : Addr} {od6 an6 : Option Addr} {sl6 : Array (Option Value)} {oc6 kV6 dc6 pm6 cd6 ct6 : Value}
    {f_is_tie : Addr} {od7 an7 : Option Addr} {sl7 : Array (Option Value)} {oc7 kV7 dc7 pm7 cd7 ct7 : Value}
    {f_look_ties : Addr} {od8 an8 : Option Addr} {sl8 : Array (Option Value)} {oc8 kV8 dc8 pm8 cd8 ct8 : Value}
    {f_look_web : Addr} {od9 an9 : Option Addr} {sl9 : Array (Option Value)} {oc9 kV9 dc9 pm9 cd9 ct9 : Value}
    {f_prices : Addr} {od10 an10 : Option Addr} {sl10 : Array (Option Value)} {oc10 kV10 dc10 pm10 cd10 ct10 : Value}
    {f_least_total : Addr} {od11 an11 : Option Addr} {sl11 : Array (Option Value)} {oc11 kV11 dc11 pm11 cd11 ct11 : Value}
    {f_shows_total : Addr} {od12 an12 : Option Addr} {sl12 : Array (Option Value)} {oc12 kV12 dc12 pm12 cd12 ct12 : Value}
    {f_law_cell : Addr} {od13 an13 : Option Addr} {sl13 : Array (Option Value)} {oc13 kV13 dc13 pm13 cd13 ct13 : Value}
    {f_law_mix : Addr} {od14 an14 : Option Addr} {sl14 : Array (Option Value)} {oc14 kV14 dc14 pm14 cd14 ct14 : Value}
    {f_law_whole : Addr} {od15 an15 : Option Addr} {sl15 : Array (Option Value)} {oc15 kV15 dc15 pm15 cd15 ct15 : Value}
    {f_law_web : Addr} {od16 an16 : Option Addr} {sl16 : Array (Option Value)} {oc16 kV16 dc16 pm16 cd16 ct16 : Value}
    {f_law_order : Addr} {od17 an17 : Option Addr} {sl17 : Array (Option Value)} {oc17 kV17 dc17 pm17 cd17 ct17 : Value}
    {f_law_lengths : Addr} {od18 an18 : Option Addr} {sl18 : Array (Option Value)} {oc18 kV18 dc18 pm18 cd18 ct18 : Value}
    {f_law_gaps : Addr} {od19 an19 : Option Addr} {sl19 : Array (Option Value)} {oc19 kV19 dc19 pm19 cd19 ct19 : Value}
    {f_law_measured : Addr} {od20 an20 : Option Addr} {sl20 : Array (Option Value)} {oc20 kV20 dc20 pm20 cd20 ct20 : Value}
    {f_law_all : Addr} {od21 an21 : Option Addr} {sl21 : Array (Option Value)} {oc21 kV21 dc21 pm21 cd21 ct21 : Value}
    {f_law_refusal : Addr} {od22 an22 : Option Addr} {sl22 : Array (Option Value)} {oc22 kV22 dc22 pm22 cd22 ct22 : Value}
    {f_law_two : Addr} {od23 an23 : Option Addr} {sl23 : Array (Option Value)} {oc23 kV23 dc23 pm23 cd23 ct23 : Value}
    {f_law_cut : Addr} {od24 an24 : Option Addr} {sl24 : Array (Option Value)} {oc24 kV24 dc24 pm24 cd24 ct24 : Value}
    {f_law_prices : Addr} {od25 an25 : Option Addr} {sl25 : Array (Option Value)} {oc25 kV25 dc25 pm25 cd25 ct25 : Value}
    {f_law_due : Addr} {od26 an26 : Option Addr} {sl26 : Array (Option Value)} {oc26 kV26 dc26 pm26 cd26 ct26 : Value}
    {f_law_refused : Addr} {od27 an27 : Option Addr} {sl27 : Array (Option Value)} {oc27 kV27 dc27 pm27 cd27 ct27 : Value}
    {f_law : Addr} {od28 an28 : Option Addr} {sl28 : Array (Option Value)} {oc28 kV28 dc28 pm28 cd28 ct28 : Value}
    {f_LayError : Addr}
    {f_BadWeb : Addr}
    {cl_BadWeb : ClassData}
    {f_BadOrder : Addr}
    {cl_BadOrder : ClassData}
    {f_BadSpot : Addr}
    {cl_BadSpot : ClassData}
    {f_BadKind : Addr}
    {cl_BadKind : ClassData}
    {f_BadText : Addr}
    {cl_BadText : ClassData}
    {t_MOST_PLACES : Tok}
    {t_MOST_WEIGHT : Tok}
    (a_set_count : PySem.W.nsIn K mainGlobals "set_count" = some (some (.ref f_set_count))) (l_set_count : K.lookup f_set_count = some ⟨oc0, od0, .func (PySem.W.fnOf "set_count" "set_count" (defArgs s_set_count) (defBody s_set_count) (defScope s_set_count) .none kV0 dc0 pm0 an0 cd0 ct0), sl0⟩) (c_set_count : PySem.W.codeIn K cd0 "set_count" = true) (k_set_count : PySem.W.keepIn K (.ref f_set_count) = true)
    (a_holds : PySem.W.nsIn K mainGlobals "holds" = some (some (.ref f_holds))) (l_holds : K.lookup f_holds = some ⟨oc1, od1, .func (PySem.W.fnOf "holds" "holds" (defArgs s_holds) (defBody s_holds) (defScope s_holds) .none kV1 dc1 pm1 an1 cd1 ct1), sl1⟩) (c_holds : PySem.W.codeIn K cd1 "holds" = true) (k_holds : PySem.W.keepIn K (.ref f_holds) = true)
    (a_place_fewer : PySem.W.nsIn K mainGlobals "place_fewer" = some (some (.ref f_place_fewer))) (l_place_fewer : K.lookup f_place_fewer = some ⟨oc2, od2, .func (PySem.W.fnOf "place_fewer" "place_fewer" (defArgs s_place_fewer) (defBody s_place_fewer) (defScope s_place_fewer) .none kV2 dc2 pm2 an2 cd2 ct2), sl2⟩) (c_place_fewer : PySem.W.codeIn K cd2 "place_fewer" = true) (k_place_fewer : PySem.W.keepIn K (.ref f_place_fewer) = true)
    (a_least_before : PySem.W.nsIn K mainGlobals "least_before" = some (some (.ref f_least_before))) (l_least_before : K.lookup f_least_before = some ⟨oc3, od3, .func (PySem.W.fnOf "least_before" "least_before" (defArgs s_least_before) (defBody s_least_before) (defScope s_least_before) .none kV3 dc3 pm3 an3 cd3 ct3), sl3⟩) (c_least_before : PySem.W.codeIn K cd3 "least_before" = true) (k_least_before : PySem.W.keepIn K (.ref f_least_before) = true)
    (a_leading_out : PySem.W.nsIn K mainGlobals "leading_out" = some (some (.ref f_leading_out))) (l_leading_out : K.lookup f_leading_out = some ⟨oc4, od4, .func (PySem.W.fnOf "leading_out" "leading_out" (defArgs s_leading_out) (defBody s_leading_out) (defScope s_leading_out) .none kV4 dc4 pm4 an4 cd4 ct4), sl4⟩) (c_leading_out : PySem.W.codeIn K cd4 "leading_out" = true) (k_leading_out : PySem.W.keepIn K (.ref f_leading_out) = true)
    (a_is_whole : PySem.W.nsIn K mainGlobals "is_whole" = some (some (.ref f_is_whole))) (l_is_whole : K.lookup f_is_whole = some ⟨oc5, od5, .func (PySem.W.fnOf "is_whole" "is_whole" (defArgs s_is_whole) (defBody s_is_whole) (defScope s_is_whole) .none kV5 dc5 pm5 an5 cd5 ct5), sl5⟩) (c_is_whole : PySem.W.codeIn K cd5 "is_whole" = true) (k_is_whole : PySem.W.keepIn K (.ref f_is_whole) = true)
    (a_is_within : PySem.W.nsIn K mainGlobals "is_within" = some (some (.ref f_is_within))) (l_is_within : K.lookup f_is_within = some ⟨oc6, od6, .func (PySem.W.fnOf "is_within" "is_within" (defArgs s_is_within) (defBody s_is_within) (defScope s_is_within) .none kV6 dc6 pm6 an6 cd6 ct6), sl6⟩) (c_is_within : PySem.W.codeIn K cd6 "is_within" = true) (k_is_within : PySem.W.keepIn K (.ref f_is_within) = true)
    (a_is_tie : PySem.W.nsIn K mainGlobals "is_tie" = some (some (.ref f_is_tie))) (l_is_tie : K.lookup f_is_tie = some ⟨oc7, od7, .func (PySem.W.fnOf "is_tie" "is_tie" (defArgs s_is_tie) (defBody s_is_tie) (defScope s_is_tie) .none kV7 dc7 pm7 an7 cd7 ct7), sl7⟩) (c_is_tie : PySem.W.codeIn K cd7 "is_tie" = true) (k_is_tie : PySem.W.keepIn K (.ref f_is_tie) = true)
    (a_look_ties : PySem.W.nsIn K mainGlobals "look_ties" = some (some (.ref f_look_ties))) (l_look_ties : K.lookup f_look_ties = some ⟨oc8, od8, .func (PySem.W.fnOf "look_ties" "look_ties" (defArgs s_look_ties) (defBody s_look_ties) (defScope s_look_ties) .none kV8 dc8 pm8 an8 cd8 ct8), sl8⟩) (c_look_ties : PySem.W.codeIn K cd8 "look_ties" = true) (k_look_ties : PySem.W.keepIn K (.ref f_look_ties) = true)
    (a_look_web : PySem.W.nsIn K mainGlobals "look_web" = some (some (.ref f_look_web))) (l_look_web : K.lookup f_look_web = some ⟨oc9, od9, .func (PySem.W.fnOf "look_web" "look_web" (defArgs s_look_web) (defBody s_look_web) (defScope s_look_web) .none kV9 dc9 pm9 an9 cd9 ct9), sl9⟩) (c_look_web : PySem.W.codeIn K cd9 "look_web" = true) (k_look_web : PySem.W.keepIn K (.ref f_look_web) = true)
    (a_prices : PySem.W.nsIn K mainGlobals "prices" = some (some (.ref f_prices))) (l_prices : K.lookup f_prices = some ⟨oc10, od10, .func (PySem.W.fnOf "prices" "prices" (defArgs s_prices) (defBody s_prices) (defScope s_prices) .none kV10 dc10 pm10 an10 cd10 ct10), sl10⟩) (c_prices : PySem.W.codeIn K cd10 "prices" = true) (k_prices : PySem.W.keepIn K (.ref f_prices) = true)
    (a_least_total : PySem.W.nsIn K mainGlobals "least_total" = some (some (.ref f_least_total))) (l_least_total : K.lookup f_least_total = some ⟨oc11, od11, .func (PySem.W.fnOf "least_total" "least_total" (defArgs s_least_total) (defBody s_least_total) (defScope s_least_total) .none kV11 dc11 pm11 an11 cd11 ct11), sl11⟩) (c_least_total : PySem.W.codeIn K cd11 "least_total" = true) (k_least_total : PySem.W.keepIn K (.ref f_least_total) = true)
    (a_shows_total : PySem.W.nsIn K mainGlobals "shows_total" = some (some (.ref f_shows_total))) (l_shows_total : K.lookup f_shows_total = some ⟨oc12, od12, .func (PySem.W.fnOf "shows_total" "shows_total" (defArgs s_shows_total) (defBody s_shows_total) (defScope s_shows_total) .none kV12 dc12 pm12 an12 cd12 ct12), sl12⟩) (c_shows_total : PySem.W.codeIn K cd12 "shows_total" = true) (k_shows_total : PySem.W.keepIn K (.ref f_shows_total) = true)
    (a_law_cell : PySem.W.nsIn K mainGlobals "_law_cell" = some (some (.ref f_law_cell))) (l_law_cell : K.lookup f_law_cell = some ⟨oc13, od13, .func (PySem.W.fnOf "_law_cell" "_law_cell" (defArgs s_law_cell) (defBody s_law_cell) (defScope s_law_cell) .none kV13 dc13 pm13 an13 cd13 ct13), sl13⟩) (c_law_cell : PySem.W.codeIn K cd13 "_law_cell" = true) (k_law_cell : PySem.W.keepIn K (.ref f_law_cell) = true)
    (a_law_mix : PySem.W.nsIn K mainGlobals "_law_mix" = some (some (.ref f_law_mix))) (l_law_mix : K.lookup f_law_mix = some ⟨oc14, od14, .func (PySem.W.fnOf "_law_mix" "_law_mix" (defArgs s_law_mix) (defBody s_law_mix) (defScope s_law_mix) .none kV14 dc14 pm14 an14 cd14 ct14), sl14⟩) (c_law_mix : PySem.W.codeIn K cd14 "_law_mix" = true) (k_law_mix : PySem.W.keepIn K (.ref f_law_mix) = true)
    (a_law_whole : PySem.W.nsIn K mainGlobals "_law_whole" = some (some (.ref f_law_whole))) (l_law_whole : K.lookup f_law_whole = some ⟨oc15, od15, .func (PySem.W.fnOf "_law_whole" "_law_whole" (defArgs s_law_whole) (defBody s_law_whole) (defScope s_law_whole) .none kV15 dc15 pm15 an15 cd15 ct15), sl15⟩) (c_law_whole : PySem.W.codeIn K cd15 "_law_whole" = true) (k_law_whole : PySem.W.keepIn K (.ref f_law_whole) = true)
    (a_law_web : PySem.W.nsIn K mainGlobals "_law_web" = some (some (.ref f_law_web))) (l_law_web : K.lookup f_law_web = some ⟨oc16, od16, .func (PySem.W.fnOf "_law_web" "_law_web" (defArgs s_law_web) (defBody s_law_web) (defScope s_law_web) .none kV16 dc16 pm16 an16 cd16 ct16), sl16⟩) (c_law_web : PySem.W.codeIn K cd16 "_law_web" = true) (k_law_web : PySem.W.keepIn K (.ref f_law_web) = true)
    (a_law_order : PySem.W.nsIn K mainGlobals "_law_order" = some (some (.ref f_law_order))) (l_law_order : K.lookup f_law_order = some ⟨oc17, od17, .func (PySem.W.fnOf "_law_order" "_law_order" (defArgs s_law_order) (defBody s_law_order) (defScope s_law_order) .none kV17 dc17 pm17 an17 cd17 ct17), sl17⟩) (c_law_order : PySem.W.codeIn K cd17 "_law_order" = true) (k_law_order : PySem.W.keepIn K (.ref f_law_order) = true)
    (a_law_lengths : PySem.W.nsIn K mainGlobals "_law_lengths" = some (some (.ref f_law_lengths))) (l_law_lengths : K.lookup f_law_lengths = some ⟨oc18, od18, .func (PySem.W.fnOf "_law_lengths" "_law_lengths" (defArgs s_law_lengths) (defBody s_law_lengths) (defScope s_law_lengths) .none kV18 dc18 pm18 an18 cd18 ct18), sl18⟩) (c_law_lengths : PySem.W.codeIn K cd18 "_law_lengths" = true) (k_law_lengths : PySem.W.keepIn K (.ref f_law_lengths) = true)
    (a_law_gaps : PySem.W.nsIn K mainGlobals "_law_gaps" = some (some (.ref f_law_gaps))) (l_law_gaps : K.lookup f_law_gaps = some ⟨oc19, od19, .func (PySem.W.fnOf "_law_gaps" "_law_gaps" (defArgs s_law_gaps) (defBody s_law_gaps) (defScope s_law_gaps) .none kV19 dc19 pm19 an19 cd19 ct19), sl19⟩) (c_law_gaps : PySem.W.codeIn K cd19 "_law_gaps" = true) (k_law_gaps : PySem.W.keepIn K (.ref f_law_gaps) = true)
    (a_law_measured : PySem.W.nsIn K mainGlobals "_law_measured" = some (some (.ref f_law_measured))) (l_law_measured : K.lookup f_law_measured = some ⟨oc20, od20, .func (PySem.W.fnOf "_law_measured" "_law_measured" (defArgs s_law_measured) (defBody s_law_measured) (defScope s_law_measured) .none kV20 dc20 pm20 an20 cd20 ct20), sl20⟩) (c_law_measured : PySem.W.codeIn K cd20 "_law_measured" = true) (k_law_measured : PySem.W.keepIn K (.ref f_law_measured) = true)
    (a_law_all : PySem.W.nsIn K mainGlobals "_law_all" = some (some (.ref f_law_all))) (l_law_all : K.lookup f_law_all = some ⟨oc21, od21, .func (PySem.W.fnOf "_law_all" "_law_all" (defArgs s_law_all) (defBody s_law_all) (defScope s_law_all) .none kV21 dc21 pm21 an21 cd21 ct21), sl21⟩) (c_law_all : PySem.W.codeIn K cd21 "_law_all" = true) (k_law_all : PySem.W.keepIn K (.ref f_law_all) = true)
    (a_law_refusal : PySem.W.nsIn K mainGlobals "_law_refusal" = some (some (.ref f_law_refusal))) (l_law_refusal : K.lookup f_law_refusal = some ⟨oc22, od22, .func (PySem.W.fnOf "_law_refusal" "_law_refusal" (defArgs s_law_refusal) (defBody s_law_refusal) (defScope s_law_refusal) .none kV22 dc22 pm22 an22 cd22 ct22), sl22⟩) (c_law_refusal : PySem.W.codeIn K cd22 "_law_refusal" = true) (k_law_refusal : PySem.W.keepIn K (.ref f_law_refusal) = true)
    (a_law_two : PySem.W.nsIn K mainGlobals "_law_two" = some (some (.ref f_law_two))) (l_law_two : K.lookup f_law_two = some ⟨oc23, od23, .func (PySem.W.fnOf "_law_two" "_law_two" (defArgs s_law_two) (defBody s_law_two) (defScope s_law_two) .none kV23 dc23 pm23 an23 cd23 ct23), sl23⟩) (c_law_two : PySem.W.codeIn K cd23 "_law_two" = true) (k_law_two : PySem.W.keepIn K (.ref f_law_two) = true)
    (a_law_cut : PySem.W.nsIn K mainGlobals "_law_cut" = some (some (.ref f_law_cut))) (l_law_cut : K.lookup f_law_cut = some ⟨oc24, od24, .func (PySem.W.fnOf "_law_cut" "_law_cut" (defArgs s_law_cut) (defBody s_law_cut) (defScope s_law_cut) .none kV24 dc24 pm24 an24 cd24 ct24), sl24⟩) (c_law_cut : PySem.W.codeIn K cd24 "_law_cut" = true) (k_law_cut : PySem.W.keepIn K (.ref f_law_cut) = true)
    (a_law_prices : PySem.W.nsIn K mainGlobals "_law_prices" = some (some (.ref f_law_prices))) (l_law_prices : K.lookup f_law_prices = some ⟨oc25, od25, .func (PySem.W.fnOf "_law_prices" "_law_prices" (defArgs s_law_prices) (defBody s_law_prices) (defScope s_law_prices) .none kV25 dc25 pm25 an25 cd25 ct25), sl25⟩) (c_law_prices : PySem.W.codeIn K cd25 "_law_prices" = true) (k_law_prices : PySem.W.keepIn K (.ref f_law_prices) = true)
    (a_law_due : PySem.W.nsIn K mainGlobals "_law_due" = some (some (.ref f_law_due))) (l_law_due : K.lookup f_law_due = some ⟨oc26, od26, .func (PySem.W.fnOf "_law_due" "_law_due" (defArgs s_law_due) (defBody s_law_due) (defScope s_law_due) .none kV26 dc26 pm26 an26 cd26 ct26), sl26⟩) (c_law_due : PySem.W.codeIn K cd26 "_law_due" = true) (k_law_due : PySem.W.keepIn K (.ref f_law_due) = true)
    (a_law_refused : PySem.W.nsIn K mainGlobals "_law_refused" = some (some (.ref f_law_refused))) (l_law_refused : K.lookup f_law_refused = some ⟨oc27, od27, .func (PySem.W.fnOf "_law_refused" "_law_refused" (defArgs s_law_refused) (defBody s_law_refused) (defScope s_law_refused) .none kV27 dc27 pm27 an27 cd27 ct27), sl27⟩) (c_law_refused : PySem.W.codeIn K cd27 "_law_refused" = true) (k_law_refused : PySem.W.keepIn K (.ref f_law_refused) = true)
    (a_law : PySem.W.nsIn K mainGlobals "law" = some (some (.ref f_law))) (l_law : K.lookup f_law = some ⟨oc28, od28, .func (PySem.W.fnOf "law" "law" (defArgs s_law) (defBody s_law) (defScope s_law) .none kV28 dc28 pm28 an28 cd28 ct28), sl28⟩) (c_law : PySem.W.codeIn K cd28 "law" = true) (k_law : PySem.W.keepIn K (.ref f_law) = true)
    (a_LayError : PySem.W.nsIn K mainGlobals "LayError" = some (some (.ref f_LayError))) (x_LayError : PySem.W.excIn K f_LayError bmV "ValueError.__new__" = true)
    (a_BadWeb : PySem.W.nsIn K mainGlobals "BadWeb" = some (some (.ref f_BadWeb))) (x_BadWeb : PySem.W.excIn K f_BadWeb bmV "ValueError.__new__" = true)
    (e1_BadWeb : PySem.W.findIn K (.ref f_BadWeb) "__getattribute__" = some (some (.builtin "BaseException.__getattribute__"))) (e2_BadWeb : PySem.W.findIn K (.ref f_BadWeb) "__getattr__" = some none) (e3_BadWeb : PySem.W.findIn K (.ref f_BadWeb) "__class__" = some (some (.builtin "object.__class__")))
    (e4_BadWeb : PySem.W.mroIn K f_BadWeb (.type "object") = some true) (e5_BadWeb : PySem.W.mroIn K f_BadWeb (.type "BaseException") = some true) (e6_BadWeb : PySem.W.clsIn K f_BadWeb = some cl_BadWeb) (s_BadWeb : PySem.W.mroIn K f_BadWeb (.ref f_LayError) = some true) (v_BadWeb : PySem.W.kitOne K (.ref f_BadWeb) (.type "ValueError") = some true)
    (a_BadOrder : PySem.W.nsIn K mainGlobals "BadOrder" = some (some (.ref f_BadOrder))) (x_BadOrder : PySem.W.excIn K f_BadOrder bmV "ValueError.__new__" = true)
    (e1_BadOrder : PySem.W.findIn K (.ref f_BadOrder) "__getattribute__" = some (some (.builtin "BaseException.__getattribute__"))) (e2_BadOrder : PySem.W.findIn K (.ref f_BadOrder) "__getattr__" = some none) (e3_BadOrder : PySem.W.findIn K (.ref f_BadOrder) "__class__" = some (some (.builtin "object.__class__")))
    (e4_BadOrder : PySem.W.mroIn K f_BadOrder (.type "object") = some true) (e5_BadOrder : PySem.W.mroIn K f_BadOrder (.type "BaseException") = some true) (e6_BadOrder : PySem.W.clsIn K f_BadOrder = some cl_BadOrder) (s_BadOrder : PySem.W.mroIn K f_BadOrder (.ref f_LayError) = some true) (v_BadOrder : PySem.W.kitOne K (.ref f_BadOrder) (.type "ValueError") = some true)
    (a_BadSpot : PySem.W.nsIn K mainGlobals "BadSpot" = some (some (.ref f_BadSpot))) (x_BadSpot : PySem.W.excIn K f_BadSpot bmV "ValueError.__new__" = true)
    (e1_BadSpot : PySem.W.findIn K (.ref f_BadSpot) "__getattribute__" = some (some (.builtin "BaseException.__getattribute__"))) (e2_BadSpot : PySem.W.findIn K (.ref f_BadSpot) "__getattr__" = some none) (e3_BadSpot : PySem.W.findIn K (.ref f_BadSpot) "__class__" = some (some (.builtin "object.__class__")))
    (e4_BadSpot : PySem.W.mroIn K f_BadSpot (.type "object") = some true) (e5_BadSpot : PySem.W.mroIn K f_BadSpot (.type "BaseException") = some true) (e6_BadSpot : PySem.W.clsIn K f_BadSpot = some cl_BadSpot) (s_BadSpot : PySem.W.mroIn K f_BadSpot (.ref f_LayError) = some true) (v_BadSpot : PySem.W.kitOne K (.ref f_BadSpot) (.type "ValueError") = some true)
    (a_BadKind : PySem.W.nsIn K mainGlobals "BadKind" = some (some (.ref f_BadKind))) (x_BadKind : PySem.W.excIn K f_BadKind bmV "ValueError.__new__" = true)
    (e1_BadKind : PySem.W.findIn K (.ref f_BadKind) "__getattribute__" = some (some (.builtin "BaseException.__getattribute__"))) (e2_BadKind : PySem.W.findIn K (.ref f_BadKind) "__getattr__" = some none) (e3_BadKind : PySem.W.findIn K (.ref f_BadKind) "__class__" = some (some (.builtin "object.__class__")))
    (e4_BadKind : PySem.W.mroIn K f_BadKind (.type "object") = some true) (e5_BadKind : PySem.W.mroIn K f_BadKind (.type "BaseException") = some true) (e6_BadKind : PySem.W.clsIn K f_BadKind = some cl_BadKind) (s_BadKind : PySem.W.mroIn K f_BadKind (.ref f_LayError) = some true) (v_BadKind : PySem.W.kitOne K (.ref f_BadKind) (.type "ValueError") = some true)
    (a_BadText : PySem.W.nsIn K mainGlobals "BadText" = some (some (.ref f_BadText))) (x_BadText : PySem.W.excIn K f_BadText bmV "ValueError.__new__" = true)
    (e1_BadText : PySem.W.findIn K (.ref f_BadText) "__getattribute__" = some (some (.builtin "BaseException.__getattribute__"))) (e2_BadText : PySem.W.findIn K (.ref f_BadText) "__getattr__" = some none) (e3_BadText : PySem.W.findIn K (.ref f_BadText) "__class__" = some (some (.builtin "object.__class__")))
    (e4_BadText : PySem.W.mroIn K f_BadText (.type "object") = some true) (e5_BadText : PySem.W.mroIn K f_BadText (.type "BaseException") = some true) (e6_BadText : PySem.W.clsIn K f_BadText = some cl_BadText) (s_BadText : PySem.W.mroIn K f_BadText (.ref f_LayError) = some true) (v_BadText : PySem.W.kitOne K (.ref f_BadText) (.type "ValueError") = some true)
    (i_BadWeb_BadWeb : PySem.W.kitOne K (.ref f_BadWeb) (.ref f_BadWeb) = some true)
    (i_BadWeb_BadOrder : PySem.W.kitOne K (.ref f_BadWeb) (.ref f_BadOrder) = some false)
    (i_BadWeb_BadSpot : PySem.W.kitOne K (.ref f_BadWeb) (.ref f_BadSpot) = some false)
    (i_BadWeb_BadKind : PySem.W.kitOne K (.ref f_BadWeb) (.ref f_BadKind) = some false)
    (i_BadWeb_BadText : PySem.W.kitOne K (.ref f_BadWeb) (.ref f_BadText) = some false)
    (i_BadOrder_BadWeb : PySem.W.kitOne K (.ref f_BadOrder) (.ref f_BadWeb) = some false)
    (i_BadOrder_BadOrder : PySem.W.kitOne K (.ref f_BadOrder) (.ref f_BadOrder) = some true)
    (i_BadOrder_BadSpot : PySem.W.kitOne K (.ref f_BadOrder) (.ref f_BadSpot) = some false)
    (i_BadOrder_BadKind : PySem.W.kitOne K (.ref f_BadOrder) (.ref f_BadKind) = some false)
    (i_BadOrder_BadText : PySem.W.kitOne K (.ref f_BadOrder) (.ref f_BadText) = some false)
    (i_BadSpot_BadWeb : PySem.W.kitOne K (.ref f_BadSpot) (.ref f_BadWeb) = some false)
    (i_BadSpot_BadOrder : PySem.W.kitOne K (.ref f_BadSpot) (.ref f_BadOrder) = some false)
    (i_BadSpot_BadSpot : PySem.W.kitOne K (.ref f_BadSpot) (.ref f_BadSpot) = some true)
    (i_BadSpot_BadKind : PySem.W.kitOne K (.ref f_BadSpot) (.ref f_BadKind) = some false)
    (i_BadSpot_BadText : PySem.W.kitOne K (.ref f_BadSpot) (.ref f_BadText) = some false)
    (i_BadKind_BadWeb : PySem.W.kitOne K (.ref f_BadKind) (.ref f_BadWeb) = some false)
    (i_BadKind_BadOrder : PySem.W.kitOne K (.ref f_BadKind) (.ref f_BadOrder) = some false)
    (i_BadKind_BadSpot : PySem.W.kitOne K (.ref f_BadKind) (.ref f_BadSpot) = some false)
    (i_BadKind_BadKind : PySem.W.kitOne K (.ref f_BadKind) (.ref f_BadKind) = some true)
    (i_BadKind_BadText : PySem.W.kitOne K (.ref f_BadKind) (.ref f_BadText) = some false)
    (i_BadText_BadWeb : PySem.W.kitOne K (.ref f_BadText) (.ref f_BadWeb) = some false)
    (i_BadText_BadOrder : PySem.W.kitOne K (.ref f_BadText) (.ref f_BadOrder) = some false)
    (i_BadText_BadSpot : PySem.W.kitOne K (.ref f_BadText) (.ref f_BadSpot) = some false)
    (i_BadText_BadKind : PySem.W.kitOne K (.ref f_BadText) (.ref f_BadKind) = some false)
    (i_BadText_BadText : PySem.W.kitOne K (.ref f_BadText) (.ref f_BadText) = some true)
    (g_MOST_PLACES : PySem.W.nsIn K mainGlobals "MOST_PLACES" = some (some (.int 8 t_MOST_PLACES)))
    (g_MOST_WEIGHT : PySem.W.nsIn K mainGlobals "MOST_WEIGHT" = some (some (.int 100 t_MOST_WEIGHT)))
    (z_abs : PySem.W.nsIn K mainGlobals "abs" = some none)
    (z_all : PySem.W.nsIn K mainGlobals "all" = some none)
    (z_bool : PySem.W.nsIn K mainGlobals "bool" = some none)
    (z_int : PySem.W.nsIn K mainGlobals "int" = some none)
    (z_isinstance : PySem.W.nsIn K mainGlobals "isinstance" = some none)
    (z_len : PySem.W.nsIn K mainGlobals "len" = some none)
    (z_list : PySem.W.nsIn K mainGlobals "list" = some none)
    (z_max : PySem.W.nsIn K mainGlobals "max" = some none)
    (z_min : PySem.W.nsIn K mainGlobals "min" = some none)
    (z_range : PySem.W.nsIn K mainGlobals "range" = some none)
    (z_sorted : PySem.W.nsIn K mainGlobals "sorted" = some none)
    (z_sum : PySem.W.nsIn K mainGlobals "sum" = some none)
    (z_tuple : PySem.W.nsIn K mainGlobals "tuple" = some none)
    (z_ValueError : PySem.W.nsIn K mainGlobals "ValueError" = some none)
    (k_bool_bool : PySem.W.kitOne K (.type "bool") (.type "bool") = some true)
    (k_bool_int : PySem.W.kitOne K (.type "bool") (.type "int") = some true)
    (k_bool_str : PySem.W.kitOne K (.type "bool") (.type "str") = some false)
    (k_bool_list : PySem.W.kitOne K (.type "bool") (.type "list") = some false)
    (k_bool_tuple : PySem.W.kitOne K (.type "bool") (.type "tuple") = some false)
    (k_int_bool : PySem.W.kitOne K (.type "int") (.type "bool") = some false)
    (k_int_int : PySem.W.kitOne K (.type "int") (.type "int") = some true)
    (k_int_str : PySem.W.kitOne K (.type "int") (.type "str") = some false)
    (k_int_list : PySem.W.kitOne K (.type "int") (.type "list") = some false)
    (k_int_tuple : PySem.W.kitOne K (.type "int") (.type "tuple") = some false)
    (k_str_bool : PySem.W.kitOne K (.type "str") (.type "bool") = some false)
    (k_str_int : PySem.W.kitOne K (.type "str") (.type "int") = some false)
    (k_str_str : PySem.W.kitOne K (.type "str") (.type "str") = some true)
    (k_str_list : PySem.W.kitOne K (.type "str") (.type "list") = some false)
    (k_str_tuple : PySem.W.kitOne K (.type "str") (.type "tuple") = some false)
    (k_list_bool : PySem.W.kitOne K (.type "list") (.type "bool") = some false)
    (k_list_int : PySem.W.kitOne K (.type "list") (.type "int") = some false)
    (k_list_str : PySem.W.kitOne K (.type "list") (.type "str") = some false)
    (k_list_list : PySem.W.kitOne K (.type "list") (.type "list") = some true)
    (k_list_tuple : PySem.W.kitOne K (.type "list") (.type "tuple") = some false)
    (k_tuple_bool : PySem.W.kitOne K (.type "tuple") (.type "bool") = some false)
    (k_tuple_int : PySem.W.kitOne K (.type "tuple") (.type "int") = some false)
    (k_tuple_str : PySem.W.kitOne K (.type "tuple") (.type "str") = some false)
    (k_tuple_list : PySem.W.kitOne K (.type "tuple") (.type "list") = some false)
    (k_tuple_tuple : PySem.W.kitOne K (.type "tuple") (.type "tuple") = some true) :
    ∃ (A : Ad) (D : FD), Txt K mg A D := by
  refine ⟨⟨f_set_count, f_holds, f_place_fewer, f_least_before, f_leading_out, f_is_whole, f_is_within, f_is_tie, f_look_ties, f_look_web, f_prices, f_least_total, f_shows_total, f_law_cell, f_law_mix, f_law_whole, f_law_web, f_law_order, f_law_lengths, f_law_gaps, f_law_measured, f_law_all, f_law_refusal, f_law_two, f_law_cut, f_law_prices, f_law_due, f_law_refused, f_law, f_LayError, f_BadWeb, f_BadOrder, f_BadSpot, f_BadKind, f_BadText⟩, ⟨PySem.W.fnOf "set_count" "set_count" (defArgs s_set_count) (defBody s_set_count) (defScope s_set_count) .none kV0 dc0 pm0 an0 cd0 ct0, PySem.W.fnOf "holds" "holds" (defArgs s_holds) (defBody s_holds) (defScope s_holds) .none kV1 dc1 pm1 an1 cd1 ct1, PySem.W.fnOf "place_fewer" "place_fewer" (defArgs s_place_fewer) (defBody s_place_fewer) (defScope s_place_fewer) .none kV2 dc2 pm2 an2 cd2 ct2, PySem.W.fnOf "least_before" "least_before" (defArgs s_least_before) (defBody s_least_before) (defScope s_least_before) .none kV3 dc3 pm3 an3 cd3 ct3, PySem.W.fnOf "leading_out" "leading_out" (defArgs s_leading_out) (defBody s_leading_out) (defScope s_leading_out) .none kV4 dc4 pm4 an4 cd4 ct4, PySem.W.fnOf "is_whole" "is_whole" (defArgs s_is_whole) (defBody s_is_whole) (defScope s_is_whole) .none kV5 dc5 pm5 an5 cd5 ct5, PySem.W.fnOf "is_within" "is_within" (defArgs s_is_within) (defBody s_is_within) (defScope s_is_within) .none kV6 dc6 pm6 an6 cd6 ct6, PySem.W.fnOf "is_tie" "is_tie" (defArgs s_is_tie) (defBody s_is_tie) (defScope s_is_tie) .none kV7 dc7 pm7 an7 cd7 ct7, PySem.W.fnOf "look_ties" "look_ties" (defArgs s_look_ties) (defBody s_look_ties) (defScope s_look_ties) .none kV8 dc8 pm8 an8 cd8 ct8, PySem.W.fnOf "look_web" "look_web" (defArgs s_look_web) (defBody s_look_web) (defScope s_look_web) .none kV9 dc9 pm9 an9 cd9 ct9, PySem.W.fnOf "prices" "prices" (defArgs s_prices) (defBody s_prices) (defScope s_prices) .none kV10 dc10 pm10 an10 cd10 ct10, PySem.W.fnOf "least_total" "least_total" (defArgs s_least_total) (defBody s_least_total) (defScope s_least_total) .none kV11 dc11 pm11 an11 cd11 ct11, PySem.W.fnOf "shows_total" "shows_total" (defArgs s_shows_total) (defBody s_shows_total) (defScope s_shows_total) .none kV12 dc12 pm12 an12 cd12 ct12, PySem.W.fnOf "_law_cell" "_law_cell" (defArgs s_law_cell) (defBody s_law_cell) (defScope s_law_cell) .none kV13 dc13 pm13 an13 cd13 ct13, PySem.W.fnOf "_law_mix" "_law_mix" (defArgs s_law_mix) (defBody s_law_mix) (defScope s_law_mix) .none kV14 dc14 pm14 an14 cd14 ct14, PySem.W.fnOf "_law_whole" "_law_whole" (defArgs s_law_whole) (defBody s_law_whole) (defScope s_law_whole) .none kV15 dc15 pm15 an15 cd15 ct15, PySem.W.fnOf "_law_web" "_law_web" (defArgs s_law_web) (defBody s_law_web) (defScope s_law_web) .none kV16 dc16 pm16 an16 cd16 ct16, PySem.W.fnOf "_law_order" "_law_order" (defArgs s_law_order) (defBody s_law_order) (defScope s_law_order) .none kV17 dc17 pm17 an17 cd17 ct17, PySem.W.fnOf "_law_lengths" "_law_lengths" (defArgs s_law_lengths) (defBody s_law_lengths) (defScope s_law_lengths) .none kV18 dc18 pm18 an18 cd18 ct18, PySem.W.fnOf "_law_gaps" "_law_gaps" (defArgs s_law_gaps) (defBody s_law_gaps) (defScope s_law_gaps) .none kV19 dc19 pm19 an19 cd19 ct19, PySem.W.fnOf "_law_measured" "_law_measured" (defArgs s_law_measured) (defBody s_law_measured) (defScope s_law_measured) .none kV20 dc20 pm20 an20 cd20 ct20, PySem.W.fnOf "_law_all" "_law_all" (defArgs s_law_all) (defBody s_law_all) (defScope s_law_all) .none kV21 dc21 pm21 an21 cd21 ct21, PySem.W.fnOf "_law_refusal" "_law_refusal" (defArgs s_law_refusal) (defBody s_law_refusal) (defScope s_law_refusal) .none kV22 dc22 pm22 an22 cd22 ct22, PySem.W.fnOf "_law_two" "_law_two" (defArgs s_law_two) (defBody s_law_two) (defScope s_law_two) .none kV23 dc23 pm23 an23 cd23 ct23, PySem.W.fnOf "_law_cut" "_law_cut" (defArgs s_law_cut) (defBody s_law_cut) (defScope s_law_cut) .none kV24 dc24 pm24 an24 cd24 ct24, PySem.W.fnOf "_law_prices" "_law_prices" (defArgs s_law_prices) (defBody s_law_prices) (defScope s_law_prices) .none kV25 dc25 pm25 an25 cd25 ct25, PySem.W.fnOf "_law_due" "_law_due" (defArgs s_law_due) (defBody s_law_due) (defScope s_law_due) .none kV26 dc26 pm26 an26 cd26 ct26, PySem.W.fnOf "_law_refused" "_law_refused" (defArgs s_law_refused) (defBody s_law_refused) (defScope s_law_refused) .none kV27 dc27 pm27 an27 cd27 ct27, PySem.W.fnOf "law" "law" (defArgs s_law) (defBody s_law) (defScope s_law) .none kV28 dc28 pm28 an28 cd28 ct28⟩, ?_⟩
  constructor
  · exact fun_mk (st := s_set_count) l_set_count c_set_count k_set_count
  · exact PySem.W.mg_of X G a_set_count
  · exact (fun_mk (st := s_set_count) l_set_count c_set_count k_set_count).binds (ps := ["places"]) fun _ _ _ _ _ _ us hl => match us, hl with | [_], _ => rfl
  · exact fun_mk (st := s_holds) l_holds c_holds k_holds
  · exact PySem.W.mg_of X G a_holds
  · exact (fun_mk (st := s_holds) l_holds c_holds k_holds).binds (ps := ["some", "place"]) fun _ _ _ _ _ _ us hl => match us, hl with | [_, _], _ => rfl
  · exact fun_mk (st := s_place_fewer) l_place_fewer c_place_fewer k_place_fewer
  · exact PySem.W.mg_of X G a_place_fewer
  · exact (fun_mk (st := s_place_fewer) l_place_fewer c_place_fewer k_place_fewer).binds (ps := ["some"]) fun _ _ _ _ _ _ us hl => match us, hl with | [_], _ => rfl
  · exact fun_mk (st := s_least_before) l_least_before c_least_before k_least_before
  · exact PySem.W.mg_of X G a_least_before
  · exact (fun_mk (st := s_least_before) l_least_before c_least_before k_least_before).binds (ps := ["numbers", "some"]) fun _ _ _ _ _ _ us hl => match us, hl with | [_, _], _ => rfl
  · exact fun_mk (st := s_leading_out) l_leading_out c_leading_out k_leading_out
  · exact PySem.W.mg_of X G a_leading_out
  · exact (fun_mk (st := s_leading_out) l_leading_out c_leading_out k_leading_out).binds (ps := ["web"]) fun _ _ _ _ _ _ us hl => match us, hl with | [_], _ => rfl
  · exact fun_mk (st := s_is_whole) l_is_whole c_is_whole k_is_whole
  · exact PySem.W.mg_of X G a_is_whole
  · exact (fun_mk (st := s_is_whole) l_is_whole c_is_whole k_is_whole).binds (ps := ["value"]) fun _ _ _ _ _ _ us hl => match us, hl with | [_], _ => rfl
  · exact fun_mk (st := s_is_within) l_is_within c_is_within k_is_within
  · exact PySem.W.mg_of X G a_is_within
  · exact (fun_mk (st := s_is_within) l_is_within c_is_within k_is_within).binds (ps := ["value", "least", "greatest"]) fun _ _ _ _ _ _ us hl => match us, hl with | [_, _, _], _ => rfl
  · exact fun_mk (st := s_is_tie) l_is_tie c_is_tie k_is_tie
  · exact PySem.W.mg_of X G a_is_tie
  · exact (fun_mk (st := s_is_tie) l_is_tie c_is_tie k_is_tie).binds (ps := ["tie", "places"]) fun _ _ _ _ _ _ us hl => match us, hl with | [_, _], _ => rfl
  · exact fun_mk (st := s_look_ties) l_look_ties c_look_ties k_look_ties
  · exact PySem.W.mg_of X G a_look_ties
  · exact (fun_mk (st := s_look_ties) l_look_ties c_look_ties k_look_ties).binds (ps := ["places", "ties"]) fun _ _ _ _ _ _ us hl => match us, hl with | [_, _], _ => rfl
  · exact fun_mk (st := s_look_web) l_look_web c_look_web k_look_web
  · exact PySem.W.mg_of X G a_look_web
  · exact (fun_mk (st := s_look_web) l_look_web c_look_web k_look_web).binds (ps := ["web"]) fun _ _ _ _ _ _ us hl => match us, hl with | [_], _ => rfl
  · exact fun_mk (st := s_prices) l_prices c_prices k_prices
  · exact PySem.W.mg_of X G a_prices
  · exact (fun_mk (st := s_prices) l_prices c_prices k_prices).binds (ps := ["web"]) fun _ _ _ _ _ _ us hl => match us, hl with | [_], _ => rfl
  · exact fun_mk (st := s_least_total) l_least_total c_least_total k_least_total
  · exact PySem.W.mg_of X G a_least_total
  · exact (fun_mk (st := s_least_total) l_least_total c_least_total k_least_total).binds (ps := ["web"]) fun _ _ _ _ _ _ us hl => match us, hl with | [_], _ => rfl
  · exact fun_mk (st := s_shows_total) l_shows_total c_shows_total k_shows_total
  · exact PySem.W.mg_of X G a_shows_total
  · exact (fun_mk (st := s_shows_total) l_shows_total c_shows_total k_shows_total).binds (ps := ["web", "bound", "paper"]) fun _ _ _ _ _ _ us hl => match us, hl with | [_, _, _], _ => rfl
  · exact fun_mk (st := s_law_cell) l_law_cell c_law_cell k_law_cell
  · exact PySem.W.mg_of X G a_law_cell
  · exact (fun_mk (st := s_law_cell) l_law_cell c_law_cell k_law_cell).binds (ps := ["_law_script", "_law_k"]) fun _ _ _ _ _ _ us hl => match us, hl with | [_, _], _ => rfl
  · exact fun_mk (st := s_law_mix) l_law_mix c_law_mix k_law_mix
  · exact PySem.W.mg_of X G a_law_mix
  · exact (fun_mk (st := s_law_mix) l_law_mix c_law_mix k_law_mix).binds (ps := ["_law_script", "_law_k"]) fun _ _ _ _ _ _ us hl => match us, hl with | [_, _], _ => rfl
  · exact fun_mk (st := s_law_whole) l_law_whole c_law_whole k_law_whole
  · exact PySem.W.mg_of X G a_law_whole
  · exact (fun_mk (st := s_law_whole) l_law_whole c_law_whole k_law_whole).binds (ps := ["_law_found"]) fun _ _ _ _ _ _ us hl => match us, hl with | [_], _ => rfl
  · exact fun_mk (st := s_law_web) l_law_web c_law_web k_law_web
  · exact PySem.W.mg_of X G a_law_web
  · exact (fun_mk (st := s_law_web) l_law_web c_law_web k_law_web).binds (ps := ["_law_script", "_law_k", "_law_places"]) fun _ _ _ _ _ _ us hl => match us, hl with | [_, _, _], _ => rfl
  · exact fun_mk (st := s_law_order) l_law_order c_law_order k_law_order
  · exact PySem.W.mg_of X G a_law_order
  · exact (fun_mk (st := s_law_order) l_law_order c_law_order k_law_order).binds (ps := ["_law_script", "_law_k", "_law_many"]) fun _ _ _ _ _ _ us hl => match us, hl with | [_, _, _], _ => rfl
  · exact fun_mk (st := s_law_lengths) l_law_lengths c_law_lengths k_law_lengths
  · exact PySem.W.mg_of X G a_law_lengths
  · exact (fun_mk (st := s_law_lengths) l_law_lengths c_law_lengths k_law_lengths).binds (ps := ["_law_web_here", "_law_order_here"]) fun _ _ _ _ _ _ us hl => match us, hl with | [_, _], _ => rfl
  · exact fun_mk (st := s_law_gaps) l_law_gaps c_law_gaps k_law_gaps
  · exact PySem.W.mg_of X G a_law_gaps
  · exact (fun_mk (st := s_law_gaps) l_law_gaps c_law_gaps k_law_gaps).binds (ps := ["_law_web_here", "_law_order_here"]) fun _ _ _ _ _ _ us hl => match us, hl with | [_, _], _ => rfl
  · exact fun_mk (st := s_law_measured) l_law_measured c_law_measured k_law_measured
  · exact PySem.W.mg_of X G a_law_measured
  · exact (fun_mk (st := s_law_measured) l_law_measured c_law_measured k_law_measured).binds (ps := ["_law_web_here", "_law_kind", "_law_order_here"]) fun _ _ _ _ _ _ us hl => match us, hl with | [_, _, _], _ => rfl
  · exact fun_mk (st := s_law_all) l_law_all c_law_all k_law_all
  · exact PySem.W.mg_of X G a_law_all
  · exact (fun_mk (st := s_law_all) l_law_all c_law_all k_law_all).binds (ps := ["_law_many"]) fun _ _ _ _ _ _ us hl => match us, hl with | [_], _ => rfl
  · exact fun_mk (st := s_law_refusal) l_law_refusal c_law_refusal k_law_refusal
  · exact PySem.W.mg_of X G a_law_refusal
  · exact (fun_mk (st := s_law_refusal) l_law_refusal c_law_refusal k_law_refusal).binds (ps := ["_law_kept"]) fun _ _ _ _ _ _ us hl => match us, hl with | [_], _ => rfl
  · exact fun_mk (st := s_law_two) l_law_two c_law_two k_law_two
  · exact PySem.W.mg_of X G a_law_two
  · exact (fun_mk (st := s_law_two) l_law_two c_law_two k_law_two).binds (ps := ["_law_many"]) fun _ _ _ _ _ _ us hl => match us, hl with | [_], _ => rfl
  · exact fun_mk (st := s_law_cut) l_law_cut c_law_cut k_law_cut
  · exact PySem.W.mg_of X G a_law_cut
  · exact (fun_mk (st := s_law_cut) l_law_cut c_law_cut k_law_cut).binds (ps := ["_law_web_here", "_law_some"]) fun _ _ _ _ _ _ us hl => match us, hl with | [_, _], _ => rfl
  · exact fun_mk (st := s_law_prices) l_law_prices c_law_prices k_law_prices
  · exact PySem.W.mg_of X G a_law_prices
  · exact (fun_mk (st := s_law_prices) l_law_prices c_law_prices k_law_prices).binds (ps := ["_law_web_here"]) fun _ _ _ _ _ _ us hl => match us, hl with | [_], _ => rfl
  · exact fun_mk (st := s_law_due) l_law_due c_law_due k_law_due
  · exact PySem.W.mg_of X G a_law_due
  · exact (fun_mk (st := s_law_due) l_law_due c_law_due k_law_due).binds (ps := ["_law_web_here", "_law_bound", "_law_table"]) fun _ _ _ _ _ _ us hl => match us, hl with | [_, _, _], _ => rfl
  · exact fun_mk (st := s_law_refused) l_law_refused c_law_refused k_law_refused
  · exact PySem.W.mg_of X G a_law_refused
  · exact (fun_mk (st := s_law_refused) l_law_refused c_law_refused k_law_refused).binds (ps := ["_law_way", "_law_web_here"]) fun _ _ _ _ _ _ us hl => match us, hl with | [_, _], _ => rfl
  · exact fun_mk (st := s_law) l_law c_law k_law
  · exact PySem.W.mg_of X G a_law
  · exact (fun_mk (st := s_law) l_law c_law k_law).binds (ps := ["_law_script"]) fun _ _ _ _ _ _ us hl => match us, hl with | [_], _ => rfl
  · exact fun s v => .of_eq rfl
  · exact PySem.W.mg_of X G a_LayError
  · exact x_LayError
  · exact PySem.W.mg_of X G a_BadWeb
  · exact x_BadWeb
  · exact ⟨e1_BadWeb, e2_BadWeb, e3_BadWeb, e4_BadWeb, e5_BadWeb, _, e6_BadWeb⟩
  · exact s_BadWeb
  · exact v_BadWeb
  · exact PySem.W.mg_of X G a_BadOrder
  · exact x_BadOrder
  · exact ⟨e1_BadOrder, e2_BadOrder, e3_BadOrder, e4_BadOrder, e5_BadOrder, _, e6_BadOrder⟩
  · exact s_BadOrder
  · exact v_BadOrder
  · exact PySem.W.mg_of X G a_BadSpot
  · exact x_BadSpot
  · exact ⟨e1_BadSpot, e2_BadSpot, e3_BadSpot, e4_BadSpot, e5_BadSpot, _, e6_BadSpot⟩
  · exact s_BadSpot
  · exact v_BadSpot
  · exact PySem.W.mg_of X G a_BadKind
  · exact x_BadKind
  · exact ⟨e1_BadKind, e2_BadKind, e3_BadKind, e4_BadKind, e5_BadKind, _, e6_BadKind⟩
  · exact s_BadKind
  · exact v_BadKind
  · exact PySem.W.mg_of X G a_BadText
  · exact x_BadText
  · exact ⟨e1_BadText, e2_BadText, e3_BadText, e4_BadText, e5_BadText, _, e6_BadText⟩
  · exact s_BadText
  · exact v_BadText
  · exact i_BadWeb_BadWeb
  · exact i_BadWeb_BadOrder
  · exact i_BadWeb_BadSpot
  · exact i_BadWeb_BadKind
  · exact i_BadWeb_BadText
  · exact i_BadOrder_BadWeb
  · exact i_BadOrder_BadOrder
  · exact i_BadOrder_BadSpot
  · exact i_BadOrder_BadKind
  · exact i_BadOrder_BadText
  · exact i_BadSpot_BadWeb
  · exact i_BadSpot_BadOrder
  · exact i_BadSpot_BadSpot
  · exact i_BadSpot_BadKind
  · exact i_BadSpot_BadText
  · exact i_BadKind_BadWeb
  · exact i_BadKind_BadOrder
  · exact i_BadKind_BadSpot
  · exact i_BadKind_BadKind
  · exact i_BadKind_BadText
  · exact i_BadText_BadWeb
  · exact i_BadText_BadOrder
  · exact i_BadText_BadSpot
  · exact i_BadText_BadKind
  · exact i_BadText_BadText
  · exact ⟨_, PySem.W.mg_of X G g_MOST_PLACES⟩
  · exact ⟨_, PySem.W.mg_of X G g_MOST_WEIGHT⟩
  · exact PySem.W.mg_none_of X G z_abs
  · exact PySem.W.mg_none_of X G z_all
  · exact PySem.W.mg_none_of X G z_bool
  · exact PySem.W.mg_none_of X G z_int
  · exact PySem.W.mg_none_of X G z_isinstance
  · exact PySem.W.mg_none_of X G z_len
  · exact PySem.W.mg_none_of X G z_list
  · exact PySem.W.mg_none_of X G z_max
  · exact PySem.W.mg_none_of X G z_min
  · exact PySem.W.mg_none_of X G z_range
  · exact PySem.W.mg_none_of X G z_sorted
  · exact PySem.W.mg_none_of X G z_sum
  · exact PySem.W.mg_none_of X G z_tuple
  · exact PySem.W.mg_none_of X G z_ValueError
  · exact k_bool_bool
  · exact k_bool_int
  · exact k_bool_str
  · exact k_bool_list
  · exact k_bool_tuple
  · exact k_int_bool
  · exact k_int_int
  · exact k_int_str
  · exact k_int_list
  · exact k_int_tuple
  · exact k_str_bool
  · exact k_str_int
  · exact k_str_str
  · exact k_str_list
  · exact k_str_tuple
  · exact k_list_bool
  · exact k_list_int
  · exact k_list_str
  · exact k_list_list
  · exact k_list_tuple
  · exact k_tuple_bool
  · exact k_tuple_int
  · exact k_tuple_str
  · exact k_tuple_list
  · exact k_tuple_tuple
end My
namespace My
open PySem L2 PySem.Spec PyProof.Rows
variable {P : Program} {w : World} {K : PySem.W.Frag} {mg : Str → Option Value} {base : Heap} {A : Ad} {D : FD}
theorem ref_facts (T : Txt K mg A D) {C : Addr} {y : Str} (h : refWord A.er C y) : PySem.W.excIn K C bmV "ValueError.__new__" = true ∧ PySem.W.mroIn K C (.ref A.LayError) = some true ∧ ExcLook K C ∧ PySem.W.kitOne K (.ref C) (.type "ValueError") = some true := by
  rcases h with ⟨rfl, _⟩ | ⟨rfl, _⟩ | ⟨rfl, _⟩ | ⟨rfl, _⟩ | ⟨rfl, _⟩
  · exact ⟨T.x_BadKind, T.s_BadKind, T.l_BadKind, T.v_BadKind⟩
  · exact ⟨T.x_BadOrder, T.s_BadOrder, T.l_BadOrder, T.v_BadOrder⟩
  · exact ⟨T.x_BadSpot, T.s_BadSpot, T.l_BadSpot, T.v_BadSpot⟩
  · exact ⟨T.x_BadText, T.s_BadText, T.l_BadText, T.v_BadText⟩
  · exact ⟨T.x_BadWeb, T.s_BadWeb, T.l_BadWeb, T.v_BadWeb⟩
theorem sc_is_whole : FnScope ["value"] ["value"] (defScope s_is_whole) := ⟨rfl, rfl, rfl, by decide +kernel, rfl, by decide +kernel, by decide +kernel⟩
theorem ok_whole (T : Txt K mg A D) {k : Nat} : FnOk P w K mg base (CXF P w) (k + 1) A.is_whole D.is_whole ["value"] spWhole := by
  refine T.F_is_whole.okF sc_is_whole (fun vs H Q E h => ?_) (fun cdv A' outer s H vs Q E hr h => ?_)
  · obtain ⟨_, rfl, _⟩ := h
    rfl
  obtain ⟨x, rfl, h⟩ := h
  refine ⟨_, (pss_one (ps_ret (pe_and (pe_callB call_isinst rfl T.z_isinstance bt_isinstance (pa_cons (pv 0) (pa_cons (pe_bltn (v := .ty "int") rfl T.z_int bt_int rfl) pa_nil))) (pe_one (pe_not (pe_callB call_isinst rfl T.z_isinstance bt_isinstance (pa_cons (pv 0) (pa_cons (pe_bltn (v := .ty "bool") rfl T.z_bool bt_bool rfl) pa_nil)))))))), ?_⟩
  rcases h with ⟨i, rfl, q⟩ | ⟨a, xs, rfl, ha, q⟩
  · refine ⟨_, rfl, _, _, _, _, _, rfl, rfl, .int i, T.k_int_int, _, rfl, iteT ?_⟩
    exact ⟨_, rfl, _, _, _, _, _, rfl, rfl, .int i, T.k_int_bool, _, rfl, q⟩
  · exact ⟨_, rfl, _, _, _, _, _, rfl, rfl, .tup ha, T.k_tuple_int, _, rfl, iteF q⟩
theorem sc_is_within : FnScope ["value", "least", "greatest"] ["value", "least", "greatest"] (defScope s_is_within) := ⟨rfl, rfl, rfl, by decide +kernel, rfl, by decide +kernel, by decide +kernel⟩
theorem ok_within (T : Txt K mg A D) {k : Nat} (G_is_whole : FnOk P w K mg base (CXF P w) k A.is_whole D.is_whole ["value"] spWhole) : FnOk P w K mg base (CXF P w) (k + 1) A.is_within D.is_within ["value", "least", "greatest"] spWithin := by
  refine T.F_is_within.okF sc_is_within (fun vs H Q E h => ?_) (fun cdv A' outer s H vs Q E hr h => ?_)
  · obtain ⟨_, _, _, rfl, _⟩ := h
    rfl
  obtain ⟨v, a, b, rfl, q⟩ := h
  refine ⟨_, (pss_one (ps_ret (pe_and (pe_call G_is_whole hr rfl T.m_is_whole T.F_is_whole.kp T.b_is_whole .nil pass0F (pa_cons (pv 0) pa_nil)) (pe_one (pe_chain op_le op_le (pv 1) (pv 0) (pv 2)))))), ?_⟩
  refine ⟨_, rfl, _, rfl, .inl ⟨v, rfl, _, rfl, iteT ?_⟩⟩
  refine ⟨_, rfl, _, rfl, _, _, rfl, rfl, _, rfl, ite2 (fun c => ?_) (fun c => ?_)⟩
  · refine ⟨_, rfl, _, _, rfl, rfl, ?_⟩
    have c' : a ≤ v := of_decide_eq_true c
    rw [decide_eq_true c', Bool.true_and] at q
    exact q
  · have c' : ¬ a ≤ v := of_decide_eq_false (Bool.eq_false_iff.mpr c)
    rw [decide_eq_false c', Bool.false_and] at q
    exact q
theorem sc_is_tie : FnScope ["tie", "places"] ["tie", "places"] (defScope s_is_tie) := ⟨rfl, rfl, rfl, by decide +kernel, rfl, by decide +kernel, by decide +kernel⟩
theorem ok_tie (T : Txt K mg A D) {k : Nat} (G_is_within : FnOk P w K mg base (CXF P w) k A.is_within D.is_within ["value", "least", "greatest"] spWithin) : FnOk P w K mg base (CXF P w) (k + 1) A.is_tie D.is_tie ["tie", "places"] spTie := by
  refine T.F_is_tie.okF sc_is_tie (fun vs H Q E h => ?_) (fun cdv A' outer s H vs Q E hr h => ?_)
  · obtain ⟨_, _, _, rfl, _⟩ := h
    rfl
  obtain ⟨p, t, n, rfl, ht, q⟩ := h
  obtain ⟨tw, hC_MOST_WEIGHT⟩ := T.g_MOST_WEIGHT
  refine ⟨_, (pss_cons (ps_if (PW.pt (pw_or (pt_not (pt_val (pe_callB call_isinst rfl T.z_isinstance bt_isinstance (pa_cons (pv 0) (pa_cons (pe_bltn (v := .ty "tuple") rfl T.z_tuple bt_tuple rfl) pa_nil))))) (pw_or1 (pt_cmpR op_ne (pe_callB call_len_seq rfl T.z_len PySem.boot_len (pa_cons (pv 0) pa_nil)) pe_int (nomark _)))))
(pss_one (ps_ret pe_bl))
pss_nil)
(pss_cons (ps_if (pt_not (pt_val (pe_call G_is_within hr rfl T.m_is_within T.F_is_within.kp T.b_is_within .nil pass0F (pa_cons (pe_ix ix_tup (pv 0) pe_int (fun _ _ => rfl)) (pa_cons pe_int (pa_cons (pe_op op_sub (pv 1) pe_int) pa_nil))))))
(pss_one (ps_ret pe_bl))
pss_nil)
(pss_one (ps_ret (pe_and (pe_call G_is_within hr rfl T.m_is_within T.F_is_within.kp T.b_is_within .nil pass0F (pa_cons (pe_ix ix_tup (pv 0) pe_int (fun _ _ => rfl)) (pa_cons pe_int (pa_cons (pe_op op_sub (pe_ix ix_tup (pv 0) pe_int (fun _ _ => rfl)) pe_int) pa_nil)))) (pe_one (pe_call G_is_within hr rfl T.m_is_within T.F_is_within.kp T.b_is_within .nil pass0F (pa_cons (pe_ix ix_tup (pv 0) pe_int (fun _ _ => rfl)) (pa_cons pe_int (pa_cons (pe_glob (v := .int 100) rfl hC_MOST_WEIGHT ⟨_, rfl⟩) pa_nil)))))))))), ?_⟩
  refine ⟨_, rfl, _, _, _, _, _, rfl, rfl, .tup ht, T.k_tuple_tuple, _, rfl, iteF ?_⟩
  refine ⟨_, rfl, p, _, rfl, .inr (SqT.of ht), rfl, _, rfl, ?_⟩
  by_cases h3 : t.length = 3
  · obtain ⟨a, b, c, rfl⟩ : ∃ a b c, t = [a, b, c] := by
      match t, h3 with
      | [a, b, c], _ => exact ⟨a, b, c, rfl⟩
    refine iteF ?_
    refine ⟨_, rfl, _, _, _, _, rfl, rfl, SqT.of ht, rfl, _, rfl, _, _, rfl, rfl, b, 0, n - 1, rfl, _, rfl, ?_⟩
    show if (!(decide (0 ≤ b) && decide (b ≤ n - 1))) = true then _ else _
    cases e1 : (decide (0 ≤ b) && decide (b ≤ n - 1)) with
    | false =>
      refine iteT ?_
      have z : tieOk n [a, b, c] = false := by rw [tieOk_eq, e1, Bool.false_and]
      rw [z] at q
      exact q
    | true =>
      refine iteF ?_
      refine ⟨_, rfl, _, _, _, _, rfl, rfl, SqT.of ht, rfl, _, rfl, _, _, _, _, rfl, rfl, SqT.of ht, rfl, _, _, rfl, rfl, a, 0, b - 1, rfl, _, rfl, ?_⟩
      cases e2 : (decide (0 ≤ a) && decide (a ≤ b - 1)) with
      | false =>
        refine iteF ?_
        have z : tieOk n [a, b, c] = false := by rw [tieOk_eq, e1, e2, Bool.false_and, Bool.true_and]
        rw [z] at q
        exact q
      | true =>
        refine iteT ?_
        refine ⟨_, rfl, _, _, _, _, rfl, rfl, SqT.of ht, rfl, c, 1, 100, rfl, ?_⟩
        have z : tieOk n [a, b, c] = (decide (1 ≤ c) && decide (c ≤ 100)) := by rw [tieOk_eq, e1, e2, Bool.true_and, Bool.true_and]
        rw [z] at q
        exact q
  · have hl : ((t.map V.int).length : Int) ≠ 3 := by rw [List.length_map]; omega
    have c : (!decide (V.int ((t.map V.int).length : Int) = V.int 3)) = true := by
      rw [decide_eq_false (fun z => hl (V.int.inj z))]
      rfl
    rw [c]
    refine iteT ?_
    have z : tieOk n t = false := by
      unfold tieOk
      split
      · exact absurd rfl h3
      · rfl
    rw [z] at q
    exact q
theorem sc_look_ties : FnScope ["places", "ties", "before", "tie"] ["places", "ties"] (defScope s_look_ties) := ⟨rfl, rfl, rfl, by decide +kernel, rfl, by decide +kernel, by decide +kernel⟩
theorem ok_ties (T : Txt K mg A D) {k : Nat} (G_is_tie : FnOk P w K mg base (CXF P w) k A.is_tie D.is_tie ["tie", "places"] spTie) : FnOk P w K mg base (CXF P w) (k + 1) A.look_ties D.look_ties ["places", "ties"] (spTies A.er) := by
  refine T.F_look_ties.okF sc_look_ties (fun vs H Q E h => ?_) (fun cdv A' outer s H vs Q E hr h => ?_)
  · obtain ⟨_, _, _, _, rfl, _⟩ := h
    rfl
  obtain ⟨n, l, xs, ts, rfl, hl, dl, win, qn, qe⟩ := h
  refine ⟨_, (pss_cons (ps_set (i := 2) sc_look_ties.nd rfl (Or.inl rfl) (pe_tup (pa_cons (pe_un un_neg pe_int) (pa_cons (pe_un un_neg pe_int) pa_nil))))
(pss_one (ps_for passesOwn_cx rfl (pi_list (pv 1)) (pg_name (i := 3) sc_look_ties.nd rfl (Or.inl rfl))
(pss_cons (ps_if (pt_not (pt_val (pe_call G_is_tie hr rfl T.m_is_tie T.F_is_tie.kp T.b_is_tie .nil pass0F (pa_cons (pv 3) (pa_cons (pv 0) pa_nil)))))
(pss_one (ps_raise raises_cx rfl T.m_BadWeb T.x_BadWeb PySem.F.excBase_ValueError rfl (pa_cons (pe_fstr (pstrs_cons (pstr_tupr hr 3) (pstrs_cons pstr_const (pstrs_cons (pstr_int 0) (pstrs_cons pstr_const pstrs_nil))))) pa_nil)))
pss_nil)
(pss_cons (ps_if (pt_cmpR (op_leT hr.units0) (pe_slice sl_tup (pv 3) po_none (po_some pe_int)) (pv 2) (nomark _))
(pss_one (ps_raise raises_cx rfl T.m_BadWeb T.x_BadWeb PySem.F.excBase_ValueError rfl (pa_cons (pe_fstr (pstrs_cons (pstr_tupr hr 3) (pstrs_cons pstr_const pstrs_nil))) pa_nil)))
pss_nil)
(pss_one (ps_set (i := 2) sc_look_ties.nd rfl (Or.inl rfl) (pe_slice sl_tup (pv 3) po_none (po_some pe_int))))))))), ?_⟩
  refine ⟨_, rfl, _, rfl, by decide, fun p hp => ?_⟩
  have e0 : Same H (upd H p (.tup [.int (-1), .int (-1)])) := same_new hp
  refine ⟨_, rfl, l, rfl, ⟨xs, SqL.of (e0 _ _ hl)⟩, ?_⟩
  have hlen : xs.length = ts.length := by rw [← dl.length, List.length_map]
  refine for_in ts.length (fun i σ H' => ∃ b v3 bef, σ = [some (.int n), some (.ref l), some (.ref b), v3] ∧ Same H H' ∧ H' b = some (.tup (bef.map V.int)) ∧ tiesOk n bef (ts.drop i) = tiesOk n [-1, -1] ts)
    ⟨p, none, [-1, -1], rfl, e0, upd_same, rfl⟩ ?_ ?_ ?_ ?_
  · rintro i σ H' hi ⟨b, v3, bef, rfl, e, hb, ht⟩
    have hx : i < xs.length := by omega
    exact ⟨xs, xs[i], SqL.of (e _ _ hl), List.getElem?_eq_getElem hx⟩
  · rintro σ H' ⟨b, v3, bef, rfl, e, hb, ht⟩
    exact ⟨xs, SqL.of (e _ _ hl), by omega⟩
  · rintro i x σ H2 H3 hi ⟨b, v3, bef, rfl, e, hb, ht⟩ ⟨rfl, hx⟩
    obtain ⟨t, htt⟩ : ∃ t, ts[i]? = some t := ⟨ts[i], List.getElem?_eq_getElem hi⟩
    obtain ⟨a, hxa, hta⟩ := tie_at (dl.mono e) htt
    have hx2 := hx xs (SqL.of (e _ _ hl))
    rw [hxa] at hx2
    cases hx2
    have hin := win.tie t (List.mem_of_getElem? htt)
    have hdrop : ts.drop i = t :: ts.drop (i + 1) := by
      obtain ⟨h1, h2⟩ := List.getElem?_eq_some_iff.mp htt
      rw [← h2]
      exact List.drop_eq_getElem_cons h1
    rw [hdrop] at ht
    refine ⟨_, rfl, _, rfl, a, t, n, rfl, hta, _, rfl, ?_⟩
    cases e1 : tieOk n t with
    | false =>
      refine iteT ?_
      refine ⟨⟨⟨a, t, rfl, SqT.of hta, hin.1, hin.2⟩, trivial, ⟨n, rfl, win.n⟩, trivial, trivial⟩, by decide, fun x hx => ?_⟩
      refine ⟨(by show 1 ≤ sizeLine; decide), qe ?_ _ e⟩
      rw [← ht, tiesOk, e1, Bool.false_and]
    | true =>
      refine iteF ?_
      obtain ⟨ta, tb, tc, rfl, _⟩ := tieOk_three e1
      refine ⟨_, rfl, _, rfl, a, _, rfl, SqT.of hta, (by show ¬ (HT.sIx 3 0 none = 0 ∧ HT.sIx 3 3 (some 2) = 3); decide), fun p2 hp2 => ?_⟩
      have hpb : b ≠ p2 := fun z => by subst z; rw [hp2] at hb; cases hb
      refine ⟨_, rfl, p2, b, [ta, tb], bef, rfl, rfl, SqT.of upd_same, SqT.of (by rw [upd_ne hpb]; exact hb), _, rfl, ?_⟩
      cases e2 : HT.lexLe [ta, tb] bef with
      | true =>
        refine iteT ?_
        have hta2 := same_new (o := .tup (cutV ([ta, tb, tc].map V.int) none (some 2))) hp2 _ _ hta
        refine ⟨⟨⟨a, [ta, tb, tc], rfl, SqT.of hta2, hin.1, hin.2⟩, trivial, trivial⟩, by decide, fun x hx => ?_⟩
        refine ⟨(by show 1 ≤ sizeLine; decide), qe ?_ _ (e.trans (same_new hp2))⟩
        rw [← ht, tiesOk, e1, Bool.true_and]
        show (!HT.lexLe [ta, tb] bef && _) = false
        rw [e2]
        rfl
      | false =>
        refine iteF ?_
        have hta2 := same_new (o := .tup (cutV ([ta, tb, tc].map V.int) none (some 2))) hp2 _ _ hta
        refine ⟨_, rfl, _, rfl, a, _, rfl, SqT.of hta2, (by show ¬ (HT.sIx 3 0 none = 0 ∧ HT.sIx 3 3 (some 2) = 3); decide), fun p3 hp3 => ?_⟩
        refine ⟨p3, _, [ta, tb], rfl, (e.trans (same_new hp2)).trans (same_new hp3), upd_same, ?_⟩
        rw [← ht, tiesOk, e1, Bool.true_and]
        show _ = (!HT.lexLe [ta, tb] bef && _)
        rw [e2]
        rfl
  · rintro σ H' ⟨b, v3, bef, rfl, e, hb, ht⟩
    rw [List.drop_length] at ht
    exact qn ht.symm _ e
theorem sc_look_web : FnScope ["web"] ["web"] (defScope s_look_web) := ⟨rfl, rfl, rfl, by decide +kernel, rfl, by decide +kernel, by decide +kernel⟩
theorem ok_web (T : Txt K mg A D) {k : Nat} (G_is_within : FnOk P w K mg base (CXF P w) k A.is_within D.is_within ["value", "least", "greatest"] spWithin)
    (G_look_ties : FnOk P w K mg base (CXF P w) k A.look_ties D.look_ties ["places", "ties"] (spTies A.er)) : FnOk P w K mg base (CXF P w) (k + 1) A.look_web D.look_web ["web"] (spWeb A.er) := by
  refine T.F_look_web.okF sc_look_web (fun vs H Q E h => ?_) (fun cdv A' outer s H vs Q E hr h => ?_)
  · obtain ⟨_, _, _, rfl, _⟩ := h
    rfl
  obtain ⟨v, n, ts, rfl, dv, win, qn, qe⟩ := h
  obtain ⟨a, l, xs, rfl, ha, hl, dl⟩ := web_of dv
  obtain ⟨tp, hC_MOST_PLACES⟩ := T.g_MOST_PLACES
  refine ⟨_, (pss_cons (ps_if (PW.pt (pw_or (pt_not (pt_val (pe_callB call_isinst rfl T.z_isinstance bt_isinstance (pa_cons (pv 0) (pa_cons (pe_bltn (v := .ty "tuple") rfl T.z_tuple bt_tuple rfl) pa_nil))))) (pw_or1 (pt_cmpR op_ne (pe_callB call_len_seq rfl T.z_len PySem.boot_len (pa_cons (pv 0) pa_nil)) pe_int (nomark _)))))
(pss_one (ps_raise raises_cx rfl T.m_BadWeb T.x_BadWeb PySem.F.excBase_ValueError rfl (pa_cons pe_str pa_nil)))
pss_nil)
(pss_cons (ps_if (pt_not (pt_val (pe_call G_is_within hr rfl T.m_is_within T.F_is_within.kp T.b_is_within .nil pass0F (pa_cons (pe_ix ix_tup (pv 0) pe_int (fun _ _ => rfl)) (pa_cons pe_int (pa_cons (pe_glob (v := .int 8) rfl hC_MOST_PLACES ⟨_, rfl⟩) pa_nil))))))
(pss_one (ps_raise raises_cx rfl T.m_BadWeb T.x_BadWeb PySem.F.excBase_ValueError rfl (pa_cons (pe_fstr (pstrs_cons pstr_const (pstrs_cons (pstr_g (pe_glob (v := .int 8) rfl hC_MOST_PLACES ⟨_, rfl⟩) (by decide)) (pstrs_cons pstr_const pstrs_nil)))) pa_nil)))
pss_nil)
(pss_cons (ps_if (pt_not (pt_val (pe_callB call_isinst rfl T.z_isinstance bt_isinstance (pa_cons (pe_ix ix_tup (pv 0) pe_int (fun _ _ => rfl)) (pa_cons (pe_bltn (v := .ty "list") rfl T.z_list bt_list rfl) pa_nil)))))
(pss_one (ps_raise raises_cx rfl T.m_BadWeb T.x_BadWeb PySem.F.excBase_ValueError rfl (pa_cons pe_str pa_nil)))
pss_nil)
(pss_one (ps_expr (pe_call G_look_ties hr rfl T.m_look_ties T.F_look_ties.kp T.b_look_ties .nil passes_cx (pa_cons (pe_ix ix_tup (pv 0) pe_int (fun _ _ => rfl)) (pa_cons (pe_ix ix_tup (pv 0) pe_int (fun _ _ => rfl)) pa_nil)))))))), ?_⟩
  refine ⟨_, rfl, _, _, _, _, _, rfl, rfl, .tup ha, T.k_tuple_tuple, _, rfl, iteF ?_⟩
  refine ⟨_, rfl, a, _, rfl, .inr (SqT.of ha), rfl, _, rfl, iteF ?_⟩
  refine ⟨_, rfl, _, _, _, _, rfl, rfl, SqT.of ha, rfl, n, 0, 8, rfl, _, rfl, ?_⟩
  show if (!(decide (0 ≤ n) && decide (n ≤ 8))) = true then _ else _
  cases e1 : (decide (0 ≤ n) && decide (n ≤ 8)) with
  | false =>
    refine iteT ?_
    refine ⟨⟨trivial, trivial, trivial, trivial⟩, by decide, fun x hx => ⟨(by show 1 ≤ sizeLine; decide), qe ?_ _ (Same.refl _)⟩⟩
    unfold webOk
    rw [e1, Bool.false_and]
  | true =>
    refine iteF ?_
    have z : webOk n ts = tiesOk n [-1, -1] ts := by unfold webOk; rw [e1, Bool.true_and]
    refine ⟨_, rfl, _, _, _, _, rfl, rfl, SqT.of ha, rfl, _, _, _, _, _, rfl, rfl, .lst hl, T.k_list_list, _, rfl, iteF ?_⟩
    refine ⟨_, rfl, _, _, _, _, rfl, rfl, SqT.of ha, rfl, _, rfl, _, _, _, _, rfl, rfl, SqT.of ha, rfl, n, l, xs, ts, rfl, hl, dl, win, fun c H' e => qn (z.trans c) H' e, fun c H' e => qe (z.trans c) H' e⟩
theorem sc_set_count : FnScope ["places"] ["places"] (defScope s_set_count) := ⟨rfl, rfl, rfl, by decide +kernel, rfl, by decide +kernel, by decide +kernel⟩
theorem ok_set_count (T : Txt K mg A D) {k : Nat} : FnOk P w K mg base (CXF P w) (k + 1) A.set_count D.set_count ["places"] spCount := by
  refine T.F_set_count.okF sc_set_count (fun vs H Q E h => ?_) (fun cdv A' outer s H vs Q E hr h => ?_)
  · obtain ⟨_, rfl, _⟩ := h
    rfl
  obtain ⟨n, rfl, hn, q⟩ := h
  refine ⟨_, (pss_one (ps_ret (pe_op op_shl pe_int (pv 0)))), ?_⟩
  refine ⟨_, rfl, _, _, rfl, rfl, ⟨by omega, by omega, by decide⟩, ?_⟩
  dsimp only
  rw [Int.one_mul, Int.toNat_natCast]
  exact_mod_cast q
theorem sc_holds : FnScope ["some", "place"] ["some", "place"] (defScope s_holds) := ⟨rfl, rfl, rfl, by decide +kernel, rfl, by decide +kernel, by decide +kernel⟩
theorem ok_holds (T : Txt K mg A D) {k : Nat} : FnOk P w K mg base (CXF P w) (k + 1) A.holds D.holds ["some", "place"] spHolds := by
  refine T.F_holds.okF sc_holds (fun vs H Q E h => ?_) (fun cdv A' outer s H vs Q E hr h => ?_)
  · obtain ⟨_, _, rfl, _⟩ := h
    rfl
  obtain ⟨S, p, rfl, hp, q⟩ := h
  refine ⟨_, (pss_one (ps_ret (pe_cmpR op_eq (pe_op op_and (pe_op op_shr (pv 0) (pv 1)) pe_int) pe_int (nomark _)))), ?_⟩
  refine ⟨_, rfl, _, rfl, _, _, rfl, rfl, by omega, _, _, rfl, rfl, rfl, ?_⟩
  have e : Builtin.bitAnd ((S : Int) / 2 ^ ((p : Int)).toNat) 1 = ((S / 2 ^ p % 2 : Nat) : Int) := by
    rw [Int.toNat_natCast]
    have z : (S : Int) / 2 ^ p = ((S / 2 ^ p : Nat) : Int) := by
      rw [Int.natCast_ediv, Int.natCast_pow]
      rfl
    rw [z, bitAnd_pp (Int.natCast_nonneg _) (by decide), Int.toNat_natCast]
    show (((S / 2 ^ p) &&& 1 : Nat) : Int) = _
    rw [Nat.and_one_is_mod]
  have b : decide (V.int (Builtin.bitAnd ((S : Int) / 2 ^ ((p : Int)).toNat) 1) = V.int 1) = bit S p := by
    rw [e]
    unfold bit
    rw [Bool.eq_iff_iff, decide_eq_true_iff, beq_iff_eq]
    exact ⟨fun h => by have := V.int.inj h; omega, fun h => by rw [h]; rfl⟩
  show Q (V.bl (decide (V.int (Builtin.bitAnd ((S : Int) / 2 ^ ((p : Int)).toNat) 1) = V.int 1))) H
  rw [b]
  exact q
theorem sc_place_fewer : FnScope ["some"] ["some"] (defScope s_place_fewer) := ⟨rfl, rfl, rfl, by decide +kernel, rfl, by decide +kernel, by decide +kernel⟩
theorem nd_place_fewer_1 : List.Nodup (["some", "place"] : List Str) := by decide +kernel
theorem ok_place_fewer (T : Txt K mg A D) {k : Nat} (G_holds : FnOk P w K mg base (CXF P w) k A.holds D.holds ["some", "place"] spHolds) : FnOk P w K mg base (CXF P w) (k + 1) A.place_fewer D.place_fewer ["some"] spFewer := by
  refine T.F_place_fewer.okF sc_place_fewer (fun vs H Q E h => ?_) (fun cdv A' outer s H vs Q E hr h => ?_)
  · obtain ⟨_, rfl, _⟩ := h
    rfl
  obtain ⟨S, rfl, hS, q⟩ := h
  have hm : Builtin.Int.intBits (S : Int) ≤ 1000 := by
    have z : Builtin.Int.intBits (S : Int) ≤ 10 := by
      unfold Builtin.Int.intBits
      by_cases c : (S : Int) = 0
      · rw [if_pos (by rw [c]; rfl)]
        omega
      · rw [if_neg (fun z => c (eq_of_beq z))]
        show S.log2 + 1 ≤ 10
        have : S.log2 < 10 := (Nat.log2_lt (by omega)).mpr (by omega)
        omega
    omega
  refine ⟨_, (pss_one (ps_ret (pe_lc rfl (cn_of (N := ["some", "place"]) (js := [some 0, none]) rfl rfl (by decide +kernel) (by decide +kernel) rfl (List.forall_mem_cons.mpr ⟨rfl, fun _ h => nomatch h⟩) (List.forall_mem_cons.mpr ⟨(fun h => nomatch h), (List.forall_mem_cons.mpr ⟨(fun h => nomatch h), (List.forall_mem_cons.mpr ⟨(fun h => nomatch h), (List.forall_mem_cons.mpr ⟨(fun _ => rfl), fun _ h => nomatch h⟩)⟩)⟩)⟩) (List.forall_mem_cons.mpr ⟨(fun j h => (by cases h; exact ⟨rfl, rfl, rfl⟩)), (List.forall_mem_cons.mpr ⟨(fun j h => nomatch h), fun _ h => nomatch h⟩)⟩) rfl) (pi_range1 rfl T.z_range (pa_cons (pe_bm0 PySem.F.plainAttrs_int PySem.F.slot_int_bit_length PySem.F.type_int_bit_length mt_bits (pv 0)) pa_nil)) (fun _ _ _ _ => (pg_name (i := 1) nd_place_fewer_1 rfl (Or.inl rfl) (hf := Or.inr rfl))) (fun _ _ _ _ => (pts_one (pt_val (pe_call G_holds hr rfl T.m_holds T.F_holds.kp T.b_holds .nil pass0F (pa_cons (pv 0) (pa_cons (pv 1) pa_nil)))))) (fun _ _ _ _ => (pe_op op_sub (pv 0) (pe_op op_shl pe_int (pv 1))))))), ?_⟩
  refine ⟨_, rfl, rfl, S, rfl, rfl, _, rfl, by omega, by omega, ?_⟩
  generalize Builtin.Int.intBits (S : Int) = m at hm q
  rw [Int.toNat_natCast]
  refine lcf_in (fun σ => ∃ y, σ = [some (.int S), y]) m (bit S) (fun i => .int ((S - 2 ^ i : Nat) : Int)) ⟨none, rfl⟩ (fun i H2 hi _ => hi) (fun H2 _ => Nat.le_refl _) (by rw [sizeLine_eq]; omega) ?_ ?_
  · rintro Dd i x σ2 H3 H4 Y Z hi e3 hD ⟨y1, rfl⟩ ⟨rfl, rfl⟩ yes no
    have ei : (0 : Int) + (i : Nat) = i := by omega
    rw [ei]
    refine ⟨_, rfl, _, rfl, S, i, rfl, by omega, _, rfl, ite2 (fun c => ?_) (fun c => ?_)⟩
    · refine ⟨_, rfl, _, rfl, _, _, rfl, rfl, ⟨by omega, by omega, by decide⟩, _, _, rfl, rfl, ?_⟩
      refine yes _ _ _ c ⟨_, rfl⟩ (Same.refl _) ?_
      have hle := bit_le c
      have z : (S : Int) - 1 * 2 ^ ((i : Nat) : Int).toNat = ((S - 2 ^ i : Nat) : Int) := by
        rw [Int.one_mul, Int.toNat_natCast, Int.natCast_sub hle, Int.natCast_pow]
        rfl
      dsimp only
      rw [z]
      exact .int
    · exact no _ _ (Bool.eq_false_iff.mpr c) ⟨_, rfl⟩ (Same.refl _)
  · intro Dd ys H3 hD e3 hy dy
    have z : (((List.range m).filter (bit S)).map fun i => PyData.int ((S - 2 ^ i : Nat) : Int)) = (((fewer m S).map fun f => ((f : Nat) : Int))).map PyData.int := by
      unfold fewer spots
      rw [List.map_map, List.map_map]
      rfl
    rw [z] at dy
    rw [dy.ints_of, List.map_map] at hy
    exact q Dd H3 hD e3 hy
theorem sc_least_before : FnScope ["numbers", "some"] ["numbers", "some"] (defScope s_least_before) := ⟨rfl, rfl, rfl, by decide +kernel, rfl, by decide +kernel, by decide +kernel⟩
theorem nd_least_before_1 : List.Nodup (["numbers", "fewer"] : List Str) := by decide +kernel
theorem ok_least_before (T : Txt K mg A D) {k : Nat} (G_place_fewer : FnOk P w K mg base (CXF P w) k A.place_fewer D.place_fewer ["some"] spFewer) : FnOk P w K mg base (CXF P w) (k + 1) A.least_before D.least_before ["numbers", "some"] spLeast := by
  refine T.F_least_before.okF sc_least_before (fun vs H Q E h => ?_) (fun cdv A' outer s H vs Q E hr h => ?_)
  · obtain ⟨_, _, _, _, rfl, _⟩ := h
    rfl
  obtain ⟨l, ns, S, n, rfl, hl, hn, hSn, hS0, hlen, q⟩ := h
  have hS32 := lt32 hn hSn
  refine ⟨_, (pss_one (ps_ret (pe_callB (call_minL rfl) rfl T.z_min bt_min (pa_cons (pe_lc rfl (cn_of (N := ["numbers", "fewer"]) (js := [some 0, none]) rfl rfl (by decide +kernel) (by decide +kernel) rfl (List.forall_mem_cons.mpr ⟨rfl, fun _ h => nomatch h⟩) (List.forall_mem_cons.mpr ⟨(fun h => nomatch h), (List.forall_mem_cons.mpr ⟨(fun h => nomatch h), (List.forall_mem_cons.mpr ⟨(fun _ => rfl), fun _ h => nomatch h⟩)⟩)⟩) (List.forall_mem_cons.mpr ⟨(fun j h => (by cases h; exact ⟨rfl, rfl, rfl⟩)), (List.forall_mem_cons.mpr ⟨(fun j h => nomatch h), fun _ h => nomatch h⟩)⟩) rfl) (pi_list (pe_call G_place_fewer hr rfl T.m_place_fewer T.F_place_fewer.kp T.b_place_fewer .nil pass0F (pa_cons (pv 1) pa_nil))) (fun _ _ _ _ => (pg_name (i := 1) nd_least_before_1 rfl (Or.inl rfl) (hf := Or.inr rfl))) (fun _ _ _ _ => pts_nil) (fun _ _ _ _ => (pe_ix (ix_listK (K := K) rfl) (pv 0) (pv 1) (fun _ _ => rfl)))) pa_nil)))), ?_⟩
  refine ⟨_, rfl, S, rfl, by omega, fun p H1 hp e1 hp1 => ⟨p, rfl, ⟨_, SqL.of hp1⟩, ?_⟩⟩
  have ef : fewer (Builtin.Int.intBits (S : Int)) S = fewer n S := by
    unfold fewer
    rw [spots_any hSn (intBits_lt S)]
  rw [ef] at hp1
  have hflt : ∀ f ∈ fewer n S, f < S := fun f hf => fewer_lt hS32 hn hf
  have hfl : (fewer n S).length ≤ 5 := by
    unfold fewer spots
    rw [List.length_map]
    exact Nat.le_trans (List.length_filter_le _ _) (by rw [List.length_range]; exact hn)
  have hne := fewer_ne hn hSn hS0
  generalize fewer n S = fs at hp1 hflt hfl hne q
  refine lc_in (fun σ => ∃ y, σ = [some (.ref l), y]) fs.length (fun i => .int (ns.getD (fs.getD i 0) 0)) ⟨none, rfl⟩ ?_ ?_ (by rw [sizeLine_eq]; omega) ?_ ?_
  · intro i H2 hi e2
    exact ⟨_, V.int (fs[i] : Nat), SqL.of (e2 _ _ hp1), by unfold natsV; rw [List.getElem?_map, List.getElem?_eq_getElem hi]; rfl⟩
  · intro H2 e2
    exact ⟨_, SqL.of (e2 _ _ hp1), by unfold natsV; rw [List.length_map]; exact Nat.le_refl _⟩
  · rintro Dd i x σ2 H3 H4 N hi e3 hD ⟨y1, rfl⟩ ⟨rfl, hx⟩ fin
    have hx2 := hx _ (SqL.of (e3 _ _ hp1))
    unfold natsV at hx2
    rw [List.getElem?_map, List.getElem?_eq_getElem hi] at hx2
    cases hx2
    have hlt := hflt _ (List.getElem_mem hi)
    have hn2 : fs[i] < ns.length := by omega
    refine ⟨_, rfl, _, rfl, l, _, _, V.int (ns[fs[i]]), rfl, rfl, SqL.of (e3 _ _ (e1 _ _ hl)), ?_, ?_⟩
    · exact atI_nat (by rw [List.getElem?_map, List.getElem?_eq_getElem hn2]; rfl)
    refine fin _ _ _ ⟨_, rfl⟩ (Same.refl _) ?_
    have z : ns.getD (fs.getD i 0) 0 = ns[fs[i]] := by
      rw [List.getD_eq_getElem?_getD (l := fs), List.getElem?_eq_getElem hi]
      show ns.getD fs[i] 0 = _
      rw [List.getD_eq_getElem?_getD, List.getElem?_eq_getElem hn2]
      rfl
    rw [z]
    exact .int
  · intro Dd ys H3 hD e3 hy dy
    have z : (List.range fs.length).map (fun i => PyData.int (ns.getD (fs.getD i 0) 0)) = (fs.map fun f => ns.getD f 0).map .int := by
      rw [map_range_get (fun f => PyData.int (ns.getD f 0)) 0 fs, List.map_map]
      rfl
    rw [z] at dy
    rw [dy.ints_of] at hy
    refine ⟨Dd, fs.map fun f => ns.getD f 0, rfl, SqL.of hy, fun e => hne (List.map_eq_nil_iff.mp e), fun M hM => ?_⟩
    rw [hM.uniq (minL_is (fun e => hne (List.map_eq_nil_iff.mp e)))]
    exact q H3 (e1.trans e3)
theorem sc_leading_out : FnScope ["web", "found", "some", "weights"] ["web"] (defScope s_leading_out) := ⟨rfl, rfl, rfl, by decide +kernel, rfl, by decide +kernel, by decide +kernel⟩
theorem nd_leading_out_1 : List.Nodup (["some", "one", "other", "weight"] : List Str) := by decide +kernel
theorem ok_leading_out (T : Txt K mg A D) {k : Nat} (G_set_count : FnOk P w K mg base (CXF P w) k A.set_count D.set_count ["places"] spCount) (G_holds : FnOk P w K mg base (CXF P w) k A.holds D.holds ["some", "place"] spHolds) : FnOk P w K mg base (CXF P w) (k + 1) A.leading_out D.leading_out ["web"] spLead := by
  refine T.F_leading_out.okF sc_leading_out (fun vs H Q E h => ?_) (fun cdv A' outer s H vs Q E hr h => ?_)
  · obtain ⟨_, _, _, rfl, _⟩ := h
    rfl
  obtain ⟨v, n, ts, rfl, dv, hw, hin, hn, q⟩ := h
  obtain ⟨hn0, hn8, htt⟩ := webOk_of hw
  obtain ⟨a, tl, xs, rfl, ha, hl, dl⟩ := web_of dv
  have hlen : xs.length = ts.length := by rw [← dl.length, List.length_map]
  have hts := hin.len
  have h32 : 2 ^ n ≤ 32 := show 2 ^ n ≤ 2 ^ 5 from Nat.pow_le_pow_right (by decide) hn
  refine ⟨_, (pss_cons (ps_set (i := 1) sc_leading_out.nd rfl (Or.inl rfl) (pe_lst pa_nil))
(pss_cons (ps_for passesOwn_cx rfl (pi_range1 rfl T.z_range (pa_cons (pe_call G_set_count hr rfl T.m_set_count T.F_set_count.kp T.b_set_count .nil pass0F (pa_cons (pe_ix ix_tup (pv 0) pe_int (fun _ _ => rfl)) pa_nil)) pa_nil)) (pg_name (i := 2) sc_leading_out.nd rfl (Or.inr rfl))
(pss_cons (ps_setLC rfl (cn_of (N := ["some", "one", "other", "weight"]) (js := [some 2, none, none, none]) rfl rfl (by decide +kernel) (by decide +kernel) rfl (List.forall_mem_cons.mpr ⟨rfl, fun _ h => nomatch h⟩) (List.forall_mem_cons.mpr ⟨(fun h => nomatch h), (List.forall_mem_cons.mpr ⟨(fun h => nomatch h), (List.forall_mem_cons.mpr ⟨(fun h => nomatch h), (List.forall_mem_cons.mpr ⟨(fun h => nomatch h), (List.forall_mem_cons.mpr ⟨(fun h => nomatch h), (List.forall_mem_cons.mpr ⟨(fun _ => rfl), fun _ h => nomatch h⟩)⟩)⟩)⟩)⟩)⟩) (List.forall_mem_cons.mpr ⟨(fun j h => (by cases h; exact ⟨rfl, rfl, rfl⟩)), (List.forall_mem_cons.mpr ⟨(fun j h => nomatch h), (List.forall_mem_cons.mpr ⟨(fun j h => nomatch h), (List.forall_mem_cons.mpr ⟨(fun j h => nomatch h), fun _ h => nomatch h⟩)⟩)⟩)⟩) rfl) (pi_list (pe_ix ix_tup (pv 0) pe_int (fun _ _ => rfl))) sc_leading_out.nd (k := 3) rfl rfl (fun _ _ _ _ => (pg_tupK (K := K) (n := 3) rfl rfl (pgs_cons (pg_name (i := 1) nd_leading_out_1 rfl (Or.inl rfl) (hf := Or.inr rfl)) (pgs_cons (pg_name (i := 2) nd_leading_out_1 rfl (Or.inl rfl) (hf := Or.inr rfl)) (pgs_cons (pg_name (i := 3) nd_leading_out_1 rfl (Or.inl rfl) (hf := Or.inr rfl)) pgs_nil))) rfl rfl)) (fun _ _ _ _ => (pts_one (pt_cmpR op_ne (pe_call G_holds hr rfl T.m_holds T.F_holds.kp T.b_holds .nil pass0F (pa_cons (pv 0) (pa_cons (pv 1) pa_nil))) (pe_call G_holds hr rfl T.m_holds T.F_holds.kp T.b_holds .nil pass0F (pa_cons (pv 0) (pa_cons (pv 2) pa_nil))) (nomark _)))) (fun _ _ _ _ => (pv 3)) (by rfl))
(pss_one (ps_expr (pe_bm PySem.F.plainAttrs_list PySem.F.slot_list_append PySem.F.type_list_append mt_append (pv 1) (pa_cons (pe_callB (call_sum rfl) rfl T.z_sum bt_sum (pa_cons (pv 3) pa_nil)) pa_nil))))))
(pss_one (ps_ret (pv 1))))), ?_⟩
  refine ⟨Nat.zero_le _, fun f hf => ?_⟩
  have e0 : Same H (upd H f (.lst [])) := same_new hf
  refine ⟨_, rfl, _, _, _, _, rfl, rfl, SqT.of (e0 _ _ ha), rfl, n, rfl, by omega, _, rfl, Int.le_trans (by decide) (Int.natCast_nonneg _), Int.lt_of_le_of_lt (Int.ofNat_le.mpr h32) (by decide), ?_⟩
  rw [Int.toNat_natCast]
  refine for_in (2 ^ n) (fun i σ H' => ∃ v2 v3, σ = [some (.ref a), some (.ref f), v2, v3] ∧ Same H H' ∧ H' f = some (.lst (((List.range i).map (cutZ ts)).map .int)))
    ⟨none, none, rfl, e0, upd_same⟩ (fun i σ H' hi _ => hi) (fun σ H' _ => Nat.le_refl _) ?_ ?_
  · rintro S x σ H2 H3 hi ⟨v2, v3, rfl, e2, hg⟩ ⟨rfl, rfl⟩
    have ei : (0 : Int) + (S : Nat) = S := by omega
    rw [ei]
    refine ⟨_, rfl, _, _, _, _, rfl, rfl, SqT.of (e2 _ _ ha), rfl, tl, rfl, ⟨xs, SqL.of (e2 _ _ hl)⟩, ?_⟩
    refine lcf_in (fun σ => ∃ x y z, σ = [some (.int S), x, y, z]) ts.length (fun i => cne S (ts.getD i [])) (fun i => .int (w3 (ts.getD i []))) ⟨none, none, none, rfl⟩ ?_ ?_ (by rw [sizeLine_eq]; omega) ?_ ?_
    · intro i H4 hi4 e4
      have hx : i < xs.length := by omega
      exact ⟨xs, xs[i], SqL.of (e4 _ _ (e2 _ _ hl)), List.getElem?_eq_getElem hx⟩
    · intro H4 e4
      exact ⟨xs, SqL.of (e4 _ _ (e2 _ _ hl)), by omega⟩
    · rintro Dd i x σ2 H4 H5 Y Z hi4 e4 hD ⟨x1, y1, z1, rfl⟩ ⟨rfl, hx⟩ yes no
      obtain ⟨t, htt2⟩ : ∃ t, ts[i]? = some t := ⟨ts[i], List.getElem?_eq_getElem hi4⟩
      obtain ⟨ta, hxa, hta⟩ := tie_at (dl.mono (e2.trans e4)) htt2
      have hx2 := hx xs (SqL.of (e4 _ _ (e2 _ _ hl)))
      rw [hxa] at hx2
      cases hx2
      have htd : ts.getD i [] = t := by rw [List.getD_eq_getElem?_getD, htt2]; rfl
      obtain ⟨pa, pb, pc, rfl, h1, h2, h3, h4, h5, h6⟩ := htt t (List.mem_of_getElem? htt2)
      obtain ⟨pa, rfl⟩ : ∃ m : Nat, pa = m := ⟨pa.toNat, by omega⟩
      obtain ⟨pb, rfl⟩ : ∃ m : Nat, pb = m := ⟨pb.toNat, by omega⟩
      refine ⟨ta, _, rfl, SqT.of hta, rfl, _, _, rfl, _, _, rfl, _, _, rfl, rfl, ?_⟩
      refine ⟨_, rfl, _, rfl, S, pa, rfl, by omega, _, rfl, _, rfl, S, pb, rfl, by omega, rfl, _, rfl, ?_⟩
      have hc : cne S (ts.getD i []) = !decide (bit S pa = bit S pb) := by
        rw [htd]
        rfl
      have hb : (!decide (V.bl (bit S pa) = V.bl (bit S pb))) = cne S (ts.getD i []) := by
        rw [hc, dec_bl]
        cases bit S pa <;> cases bit S pb <;> rfl
      rw [hb]
      refine ite2 (fun c => ?_) (fun c => ?_)
      · refine ⟨_, rfl, yes _ _ _ c ⟨_, _, _, rfl⟩ (Same.refl _) ?_⟩
        rw [htd]
        exact .int
      · exact no _ _ (Bool.eq_false_iff.mpr c) ⟨_, _, _, rfl⟩ (Same.refl _)
    · intro Dd ys H4 hD e4 hy dy
      have z : (((List.range ts.length).filter fun i => cne S (ts.getD i [])).map fun i => PyData.int (w3 (ts.getD i []))) = (((List.range ts.length).filter fun i => cne S (ts.getD i [])).map fun i => w3 (ts.getD i [])).map .int := by
        rw [List.map_map]
        rfl
      rw [z] at dy
      rw [dy.ints_of] at hy
      have hg4 := e4 _ _ hg
      have hfl : (((List.range S).map (cutZ ts)).map V.int).length < sizeLine := by
        rw [List.length_map, List.length_map, List.length_range, sizeLine_eq]
        omega
      refine ⟨_, rfl, .inl ⟨rfl, _, SqL.of hg4⟩, _, rfl, Dd, _, rfl, SqL.of hy, _, _, _, rfl, rfl, hg4, hfl, _, _, rfl, (e2.trans e4).put hf, ?_⟩
      rw [upd_same, cut_sum, List.range_succ, List.map_append, List.map_append]
      rfl
  · rintro σ H' ⟨v2, v3, rfl, e, hg⟩
    exact ⟨_, rfl, q f H' hf e hg⟩
theorem sc_prices : FnScope ["web", "out", "found", "some"] ["web"] (defScope s_prices) := ⟨rfl, rfl, rfl, by decide +kernel, rfl, by decide +kernel, by decide +kernel⟩
theorem ok_prices (T : Txt K mg A D) {k : Nat} (G_look_web : FnOk P w K mg base (CXF P w) k A.look_web D.look_web ["web"] (spWeb A.er)) (G_leading_out : FnOk P w K mg base (CXF P w) k A.leading_out D.leading_out ["web"] spLead) (G_least_before : FnOk P w K mg base (CXF P w) k A.least_before D.least_before ["numbers", "some"] spLeast) :
    FnOk P w K mg base (CXF P w) (k + 1) A.prices D.prices ["web"] (spPrices A.er) := by
  refine T.F_prices.okF sc_prices (fun vs H Q E h => ?_) (fun cdv A' outer s H vs Q E hr h => ?_)
  · obtain ⟨_, _, _, rfl, _⟩ := h
    rfl
  obtain ⟨v, n, ts, rfl, dv, win, h5, q1, q2⟩ := h
  refine ⟨_, (pss_cons (ps_expr (pe_call G_look_web hr rfl T.m_look_web T.F_look_web.kp T.b_look_web .nil passes_cx (pa_cons (pv 0) pa_nil)))
(pss_cons (ps_set (i := 1) sc_prices.nd rfl (Or.inl rfl) (pe_call G_leading_out hr rfl T.m_leading_out T.F_leading_out.kp T.b_leading_out .nil pass0F (pa_cons (pv 0) pa_nil)))
(pss_cons (ps_set (i := 2) sc_prices.nd rfl (Or.inl rfl) (pe_lst (pa_cons pe_int pa_nil)))
(pss_cons (ps_for passesOwn_cx rfl (pi_range2 rfl T.z_range (pa_cons pe_int (pa_cons (pe_callB call_len_seq rfl T.z_len PySem.boot_len (pa_cons (pv 1) pa_nil)) pa_nil))) (pg_name (i := 3) sc_prices.nd rfl (Or.inl rfl))
(pss_one (ps_expr (pe_bm PySem.F.plainAttrs_list PySem.F.slot_list_append PySem.F.type_list_append mt_append (pv 2) (pa_cons (pe_op op_add (pe_call G_least_before hr rfl T.m_least_before T.F_least_before.kp T.b_least_before .nil pass0F (pa_cons (pv 2) (pa_cons (pv 3) pa_nil))) (pe_ix ix_list (pv 1) (pv 3) (fun _ _ => rfl))) pa_nil)))))
(pss_one (ps_ret (pv 2))))))), ?_⟩
  refine ⟨_, rfl, v, n, ts, rfl, dv, win, fun hw H1 e1 => ?_, fun hw H1 e1 => q2 hw H1 e1⟩
  obtain ⟨hn0, _, _⟩ := webOk_of hw
  obtain ⟨N, rfl⟩ : ∃ N : Nat, n = N := ⟨n.toNat, by omega⟩
  have hN : N ≤ 5 := by have := h5 hw; omega
  have h32 : 2 ^ N ≤ 32 := show 2 ^ N ≤ 2 ^ 5 from Nat.pow_le_pow_right (by decide) hN
  have hpos := two_pos N
  refine ⟨_, rfl, v, N, ts, rfl, dv.mono e1, hw, win, hN, fun ol H2 hol e2 ho => ?_⟩
  refine ⟨(by show 1 ≤ sizeLine; decide), fun f hf => ?_⟩
  obtain ⟨s3, n3⟩ := new_pair (o := .lst [V.int 0]) hf
  have hlo : ((((List.range (2 ^ N)).map (cutZ ts)).map V.int).length : Int) = ((2 ^ N : Nat) : Int) := by rw [List.length_map, List.length_map, List.length_range]
  refine ⟨_, rfl, _, _, rfl, .inl (SqL.of (s3 _ _ ho)), _, _, rfl, ?_⟩
  rw [hlo]
  generalize hM : 2 ^ N = M at h32 hpos hlo ho
  refine ⟨⟨by omega, by omega, by omega, by omega⟩, ?_⟩
  have hto : ((M : Int) - 1).toNat = M - 1 := by omega
  rw [hto]
  refine for_in (M - 1) (fun i σ H' => ∃ v3, σ = [some v, some (.ref ol), some (.ref f), v3] ∧ Same H2 H' ∧ H' f = some (.lst ((prs N ts (i + 1)).map .int)))
    ⟨none, rfl, s3, n3⟩ (fun i σ H' hi _ => hi) (fun σ H' _ => Nat.le_refl _) ?_ ?_
  · rintro i x σ H4 H5 hi ⟨v3, rfl, e4, hg⟩ ⟨rfl, rfl⟩
    have ei : (1 : Int) + (i : Nat) = ((i + 1 : Nat) : Int) := by omega
    rw [ei]
    have hlt : i + 1 < 2 ^ N := by omega
    have hl1 : ((prs N ts (i + 1)).map V.int).length = i + 1 := by rw [List.length_map, prs_len]
    refine ⟨_, rfl, .inl ⟨rfl, _, SqL.of hg⟩, _, rfl, _, rfl, f, prs N ts (i + 1), i + 1, N, rfl, hg, hN, hlt, by omega, by rw [prs_len]; exact Nat.le_refl _, fun H6 e6 => ?_⟩
    have ho6 := e6 _ _ (e4 _ _ ho)
    have hg6 := e6 _ _ hg
    have hat : atI (((List.range M).map (cutZ ts)).map V.int) (((i + 1 : Nat) : Int)) = some (.int (cutZ ts (i + 1))) := by
      refine atI_nat ?_
      rw [List.getElem?_map, List.getElem?_map, List.getElem?_range (by omega)]
      rfl
    refine ⟨_, rfl, _, rfl, ol, _, _, _, rfl, rfl, SqL.of ho6, hat, _, _, rfl, rfl, _, _, _, rfl, rfl, hg6, by rw [hl1, sizeLine_eq]; omega, _, rfl, (e4.trans e6).put hf, ?_⟩
    rw [upd_same]
    show _ = some (HO.lst ((prs N ts (i + 1) ++ [_]).map V.int))
    rw [List.map_append]
    rfl
  · rintro σ H' ⟨v3, rfl, e, hg⟩
    have z : M - 1 + 1 = 2 ^ N := by omega
    rw [z] at hg
    exact ⟨_, rfl, q1 hw f H' ((e1.trans e2).free hf) ((e1.trans e2).trans e) hg⟩
theorem sc_least_total : FnScope ["web"] ["web"] (defScope s_least_total) := ⟨rfl, rfl, rfl, by decide +kernel, rfl, by decide +kernel, by decide +kernel⟩
theorem ok_least_total (T : Txt K mg A D) {k : Nat} (G_prices : FnOk P w K mg base (CXF P w) k A.prices D.prices ["web"] (spPrices A.er)) : FnOk P w K mg base (CXF P w) (k + 1) A.least_total D.least_total ["web"] (spLeastT A.er) := by
  refine T.F_least_total.okF sc_least_total (fun vs H Q E h => ?_) (fun cdv A' outer s H vs Q E hr h => ?_)
  · obtain ⟨_, _, _, rfl, _⟩ := h
    rfl
  obtain ⟨v, n, ts, rfl, dv, win, h5, q1, q2⟩ := h
  refine ⟨_, (pss_one (ps_ret (pe_ix ix_list (pe_call G_prices hr rfl T.m_prices T.F_prices.kp T.b_prices .nil passes_cx (pa_cons (pv 0) pa_nil)) (pe_un un_neg pe_int) (fun _ _ => rfl)))), ?_⟩
  refine ⟨_, rfl, v, n, ts, rfl, dv, win, h5, fun hw l H1 hl e1 hl1 => ?_, q2⟩
  have hpos := two_pos n.toNat
  have hne : prs n.toNat ts (2 ^ n.toNat) ≠ [] := fun e => by
    have := prs_len n.toNat ts (2 ^ n.toNat)
    rw [e] at this
    have z : 0 = 2 ^ n.toNat := this
    omega
  refine ⟨_, rfl, l, _, _, _, rfl, rfl, SqL.of hl1, atI_neg1 hne, ?_⟩
  rw [prs_len, prs_get (by omega)]
  exact q1 hw H1 e1
theorem sc_shows_total : FnScope ["web", "bound", "paper", "out", "some"] ["web", "bound", "paper"] (defScope s_shows_total) := ⟨rfl, rfl, rfl, by decide +kernel, rfl, by decide +kernel, by decide +kernel⟩
theorem nd_shows_total_1 : List.Nodup (["number"] : List Str) := by decide +kernel
theorem ok_shows_total (T : Txt K mg A D) {k : Nat} (G_look_web : FnOk P w K mg base (CXF P w) k A.look_web D.look_web ["web"] (spWeb A.er)) (G_leading_out : FnOk P w K mg base (CXF P w) k A.leading_out D.leading_out ["web"] spLead) (G_least_before : FnOk P w K mg base (CXF P w) k A.least_before D.least_before ["numbers", "some"] spLeast)
    (G_is_whole : FnOk P w K mg base (CXF P w) k A.is_whole D.is_whole ["value"] spWhole) :
    FnOk P w K mg base (CXF P w) (k + 1) A.shows_total D.shows_total ["web", "bound", "paper"] (spShows A.er) := by
  refine T.F_shows_total.okF sc_shows_total (fun vs H Q E h => ?_) (fun cdv A' outer s H vs Q E hr h => ?_)
  · obtain ⟨_, _, _, _, _, _, rfl, _⟩ := h
    rfl
  obtain ⟨v, l, n, ts, bound, ns, rfl, dv, win, h5, hl, hns, q1, q2⟩ := h
  refine ⟨_, (pss_cons (ps_expr (pe_call G_look_web hr rfl T.m_look_web T.F_look_web.kp T.b_look_web .nil passes_cx (pa_cons (pv 0) pa_nil)))
(pss_cons (ps_set (i := 3) sc_shows_total.nd rfl (Or.inl rfl) (pe_call G_leading_out hr rfl T.m_leading_out T.F_leading_out.kp T.b_leading_out .nil pass0F (pa_cons (pv 0) pa_nil)))
(pss_cons (ps_if (PW.pt (pw_or (pt_cmpR op_ne (pe_callB call_len_seq rfl T.z_len PySem.boot_len (pa_cons (pv 2) pa_nil)) (pe_callB call_len_seq rfl T.z_len PySem.boot_len (pa_cons (pv 3) pa_nil)) (nomark _)) (pw_or1 (pt_not (pt_val (pe_callB (call_allB rfl) rfl T.z_all bt_all (pa_cons (pe_lc rfl (cn_none (N := ["number"]) (js := [none]) rfl rfl (by decide +kernel) (by decide +kernel) (by decide +kernel) rfl (by decide) rfl) (pi_list (pv 2)) (fun _ _ _ _ => (pg_name (i := 0) nd_shows_total_1 rfl (Or.inl rfl) (hf := Or.inr rfl))) (fun _ _ _ _ => pts_nil) (fun _ _ _ _ => (pe_call G_is_whole hr rfl T.m_is_whole T.F_is_whole.kp T.b_is_whole .nil pass0F (pa_cons (pv 0) pa_nil)))) pa_nil)))))))
(pss_one (ps_ret pe_bl))
pss_nil)
(pss_cons (ps_if (PW.pt (pw_or (pt_cmpR op_ne (pe_ix ix_list (pv 2) pe_int (fun _ _ => rfl)) pe_int (nomark _)) (pw_or1 (pt_cmpR op_lt (pe_ix ix_list (pv 2) (pe_un un_neg pe_int) (fun _ _ => rfl)) (pv 1) (nomark _)))))
(pss_one (ps_ret pe_bl))
pss_nil)
(pss_cons (ps_for passesOwn_cx rfl (pi_range2 rfl T.z_range (pa_cons pe_int (pa_cons (pe_callB call_len_seq rfl T.z_len PySem.boot_len (pa_cons (pv 3) pa_nil)) pa_nil))) (pg_name (i := 4) sc_shows_total.nd rfl (Or.inl rfl))
(pss_one (ps_if (pt_cmpR op_gt (pe_ix ix_list (pv 2) (pv 4) (fun _ _ => rfl)) (pe_op op_add (pe_call G_least_before hr rfl T.m_least_before T.F_least_before.kp T.b_least_before .nil pass0F (pa_cons (pv 2) (pa_cons (pv 4) pa_nil))) (pe_ix ix_list (pv 3) (pv 4) (fun _ _ => rfl))) (nomark _))
(pss_one (ps_ret pe_bl))
pss_nil)))
(pss_one (ps_ret pe_bl))))))), ?_⟩
  refine ⟨_, rfl, v, n, ts, rfl, dv, win, fun hw H1 e1 => ?_, fun hw H1 e1 => q2 hw H1 e1⟩
  obtain ⟨hn0, _, _⟩ := webOk_of hw
  obtain ⟨N, rfl⟩ : ∃ N : Nat, n = N := ⟨n.toNat, by omega⟩
  have hN : N ≤ 5 := by have := h5 hw; omega
  have h32 : 2 ^ N ≤ 32 := show 2 ^ N ≤ 2 ^ 5 from Nat.pow_le_pow_right (by decide) hN
  have hpos := two_pos N
  refine ⟨_, rfl, v, N, ts, rfl, dv.mono e1, hw, win, hN, fun ol H2 hol e2 ho => ?_⟩
  have e12 := e1.trans e2
  have hl2 := e12 _ _ hl
  have q : ∀ H', Same H2 H' → Q (.bl (showsB N ts bound ns)) H' := fun H' e => q1 hw H' (e12.trans e)
  have hlo : ((((List.range (2 ^ N)).map (cutZ ts)).map V.int).length : Int) = ((2 ^ N : Nat) : Int) := by rw [List.length_map, List.length_map, List.length_range]
  have hln : ((ns.map V.int).length : Int) = (ns.length : Int) := by rw [List.length_map]
  refine ⟨_, rfl, _, _, rfl, .inl (SqL.of hl2), _, rfl, _, _, rfl, .inl (SqL.of ho), rfl, _, rfl, ?_⟩
  dsimp only
  rw [hlo, hln]
  by_cases c1 : ¬ ns.length = 2 ^ N
  · refine ifT (ndT (fun z => c1 (by exact_mod_cast z))) (iteT ?_)
    have z : showsB N ts bound ns = false := by
      unfold showsB
      rw [decide_eq_false c1]
      rfl
    have := q H2 (Same.refl _)
    rw [z] at this
    exact this
  replace c1 := Decidable.not_not.mp c1
  refine ifF (ndF (by exact_mod_cast c1)) ?_
  refine ⟨_, rfl, l, rfl, ⟨_, SqL.of hl2⟩, ?_⟩
  refine lc_in (fun σ => ∃ y, σ = [y]) ns.length (fun i => .bool true) ⟨none, rfl⟩ ?_ ?_ (by rw [sizeLine_eq]; omega) ?_ ?_
  · intro i H3 hi e3
    exact ⟨_, V.int ns[i], SqL.of (e3 _ _ hl2), by rw [List.getElem?_map, List.getElem?_eq_getElem hi]; rfl⟩
  · intro H3 e3
    exact ⟨_, SqL.of (e3 _ _ hl2), by rw [List.length_map]; exact Nat.le_refl _⟩
  · rintro Dd i x σ2 H3 H4 N' hi e3 hD ⟨y1, rfl⟩ ⟨rfl, hx⟩ fin
    have hx2 := hx _ (SqL.of (e3 _ _ hl2))
    rw [List.getElem?_map, List.getElem?_eq_getElem hi] at hx2
    cases hx2
    exact ⟨_, rfl, _, rfl, .inl ⟨_, rfl, fin _ _ _ ⟨_, rfl⟩ (Same.refl _) .bool⟩⟩
  intro Dd ys H3 hD e3 hy dy
  have z : (List.range ns.length).map (fun i => PyData.bool true) = (List.replicate ns.length true).map PyData.bool := by
    rw [List.map_replicate, List.map_const', List.length_range]
  rw [z] at dy
  rw [datL_bools dy] at hy
  have hall : (List.replicate ns.length true).all id = true := List.all_eq_true.mpr fun b hb => (List.mem_replicate.mp hb).2
  refine ⟨Dd, _, rfl, SqL.of hy, _, rfl, ifF (by rw [hall]; rfl) ?_⟩
  have hl3 := e3 _ _ hl2
  have ho3 := e3 _ _ ho
  have hn0' : 0 < ns.length := by omega
  have hne : ns ≠ [] := fun e => by rw [e] at hn0'; exact absurd hn0' (Nat.lt_irrefl _)
  refine ⟨_, rfl, l, _, _, _, rfl, rfl, SqL.of hl3, atI_at (i := 0) hn0', rfl, _, rfl, ?_⟩
  dsimp only
  by_cases c2 : ns.getD 0 0 ≠ 0
  · refine ifT (ndT c2) (iteT ?_)
    have z : showsB N ts bound ns = false := by
      unfold showsB
      rw [decide_eq_false c2, Bool.false_and, Bool.and_false]
    have := q H3 e3
    rw [z] at this
    exact this
  replace c2 := Decidable.not_not.mp c2
  refine ifF (ndF c2) ?_
  refine ⟨_, rfl, _, rfl, l, _, _, _, rfl, rfl, SqL.of hl3, atI_neg1 hne, _, rfl, _, _, rfl, rfl, _, rfl, ?_⟩
  have hlast : ns.getD (ns.length - 1) 0 = ns.getD (2 ^ N - 1) 0 := by rw [c1]
  by_cases c3 : ns.getD (2 ^ N - 1) 0 < bound
  · refine ifT (decide_eq_true (by rw [hlast]; exact c3)) ?_
    have z : showsB N ts bound ns = false := by
      unfold showsB
      rw [decide_eq_false (p := bound ≤ _) (by omega), Bool.false_and, Bool.and_false, Bool.and_false]
    have := q H3 e3
    rw [z] at this
    exact this
  refine ifF (decide_eq_false (by rw [hlast]; exact c3)) ?_
  refine ⟨_, rfl, _, _, rfl, .inl (SqL.of ho3), _, _, rfl, ?_⟩
  rw [hlo]
  have hend : keepsTo N ts ns (2 ^ N) = showsB N ts bound ns := by
    unfold showsB
    rw [decide_eq_true c1, decide_eq_true c2, decide_eq_true (p := bound ≤ _) (by omega)]
    rfl
  generalize hM : 2 ^ N = M at h32 hpos hlo ho ho3 c1 hlast c3 hend
  refine ⟨⟨by omega, by omega, by omega, by omega⟩, ?_⟩
  have hto : ((M : Int) - 1).toNat = M - 1 := by omega
  rw [hto]
  have hsn : ∀ i, keepsTo N ts ns (i + 1) = (keepsTo N ts ns i && (decide (i = 0) || decide (ns.getD i 0 ≤ minL ((fewer N i).map fun f => ns.getD f 0) + cutZ ts i))) := fun i => by
    unfold keepsTo
    rw [List.range_succ, List.all_append, List.all_cons, List.all_nil, Bool.and_true]
  have hmono : ∀ i j, keepsTo N ts ns (i + j) = true → keepsTo N ts ns i = true := fun i j => by
    induction j with
    | zero => exact id
    | succ j ih =>
      intro h
      rw [← Nat.add_assoc, hsn, Bool.and_eq_true] at h
      exact ih h.1
  refine for_in (M - 1) (fun i σ H' => ∃ v4, σ = [some v, some (.int bound), some (.ref l), some (.ref ol), v4] ∧ Same H3 H' ∧ keepsTo N ts ns (i + 1) = true)
    ⟨none, rfl, Same.refl _, rfl⟩ (fun i σ H' hi _ => hi) (fun σ H' _ => Nat.le_refl _) ?_ ?_
  · rintro i x σ H4 H5 hi ⟨v4, rfl, e4, hk⟩ ⟨rfl, rfl⟩
    have ei : (1 : Int) + (i : Nat) = ((i + 1 : Nat) : Int) := by omega
    rw [ei]
    have hlt : i + 1 < 2 ^ N := by omega
    have hl4 := e4 _ _ hl3
    refine ⟨_, rfl, _, rfl, l, _, _, _, rfl, rfl, SqL.of hl4, atI_at (i := i + 1) (by omega), _, rfl, _, rfl, l, ns, i + 1, N, rfl, hl4, hN, hlt, by omega, by omega, fun H6 e6 => ?_⟩
    have ho6 := e6 _ _ (e4 _ _ ho3)
    have hat : atI (((List.range M).map (cutZ ts)).map V.int) (((i + 1 : Nat) : Int)) = some (.int (cutZ ts (i + 1))) := by
      refine atI_nat ?_
      rw [List.getElem?_map, List.getElem?_map, List.getElem?_range (by omega)]
      rfl
    refine ⟨_, rfl, _, rfl, ol, _, _, _, rfl, rfl, SqL.of ho6, hat, _, _, rfl, rfl, _, _, rfl, rfl, _, rfl, ?_⟩
    by_cases c4 : minL ((fewer N (i + 1)).map fun f => ns.getD f 0) + cutZ ts (i + 1) < ns.getD (i + 1) 0
    · refine ifT (decide_eq_true c4) ?_
      have z : showsB N ts bound ns = false := by
        rw [← hend]
        cases hz : keepsTo N ts ns M with
        | false => rfl
        | true =>
          have z2 := hmono (i + 2) (M - (i + 2)) (by rw [show i + 2 + (M - (i + 2)) = M by omega]; exact hz)
          rw [hsn, Bool.and_eq_true, Bool.or_eq_true] at z2
          rcases z2.2 with z3 | z3
          · exact absurd (of_decide_eq_true z3) (by omega)
          · exact absurd (of_decide_eq_true z3) (by omega)
      have := q H6 (e3.trans (e4.trans e6))
      rw [z] at this
      exact this
    · refine ifF (decide_eq_false c4) ⟨_, rfl, e4.trans e6, ?_⟩
      rw [hsn, hk, decide_eq_true (p := ns.getD (i + 1) 0 ≤ _) (by omega), Bool.or_true]
      rfl
  · rintro σ H' ⟨v4, rfl, e, hk⟩
    rw [show M - 1 + 1 = M by omega, hend] at hk
    have := q H' (e3.trans e)
    rw [hk] at this
    exact this
theorem sc_law_cell : FnScope ["_law_script", "_law_k"] ["_law_script", "_law_k"] (defScope s_law_cell) := ⟨rfl, rfl, rfl, by decide +kernel, rfl, by decide +kernel, by decide +kernel⟩
theorem ok_law_cell (T : Txt K mg A D) {k : Nat} : FnOk P w K mg base (CXF P w) (k + 1) A.law_cell D.law_cell ["_law_script", "_law_k"] (spCell K) := by
  refine T.F_law_cell.okF sc_law_cell (fun vs H Q E h => ?_) (fun cdv A' outer s H vs Q E hr h => ?_)
  · obtain ⟨_, _, _, rfl, _⟩ := h
    rfl
  obtain ⟨a, ns, i, rfl, hS, q⟩ := h
  refine ⟨_, (pss_cons (ps_if (pt_truth (pv 0) (fun _ => rfl))
(pss_one (ps_ret (pe_ix ix_list (pv 0) (pe_op op_mod (pv 1) (pe_callB call_len_seq rfl T.z_len PySem.boot_len (pa_cons (pv 0) pa_nil))) (fun _ _ => rfl))))
pss_nil)
(pss_one (ps_ret pe_int))), ?_⟩
  refine ⟨_, rfl, _, .inl ⟨_, hS, rfl⟩, ?_⟩
  cases ns with
  | nil => exact iteF q
  | cons x r =>
    refine iteT ?_
    exact ⟨_, rfl, _, rfl, _, rfl, _, _, rfl, .inl hS, _, _, rfl, rfl, (by rw [List.length_map, List.length_cons]; omega), _, _, _, _, rfl, rfl, hS, cell_at (List.cons_ne_nil x r) i, q⟩
theorem sc_law_mix : FnScope ["_law_script", "_law_k", "_law_number"] ["_law_script", "_law_k"] (defScope s_law_mix) := ⟨rfl, rfl, rfl, by decide +kernel, rfl, by decide +kernel, by decide +kernel⟩
theorem ok_law_mix (T : Txt K mg A D) {k : Nat} (G_law_cell : FnOk P w K mg base (CXF P w) k A.law_cell D.law_cell ["_law_script", "_law_k"] (spCell K)) : FnOk P w K mg base (CXF P w) (k + 1) A.law_mix D.law_mix ["_law_script", "_law_k"] (spMix K) := by
  refine T.F_law_mix.okF sc_law_mix (fun vs H Q E h => ?_) (fun cdv A' outer s H vs Q E hr h => ?_)
  · obtain ⟨_, _, _, rfl, _⟩ := h
    rfl
  obtain ⟨a, ns, i, rfl, hS, q⟩ := h
  refine ⟨_, (pss_cons (ps_set (i := 2) sc_law_mix.nd rfl (Or.inl rfl) (pe_op op_mod (pe_op op_add (pe_call G_law_cell hr rfl T.m_law_cell T.F_law_cell.kp T.b_law_cell .nil pass0F (pa_cons (pv 0) (pa_cons (pv 1) pa_nil))) (pe_op op_mul pe_int (pe_op op_add (pv 1) pe_int))) pe_int))
(pss_cons (ps_set (i := 2) sc_law_mix.nd rfl (Or.inl rfl) (pe_op op_mod (pe_op op_mul (pv 2) pe_int) pe_int))
(pss_one (ps_ret (pe_op op_mod (pe_op op_add (pe_op op_mul (pe_op op_fdiv (pv 2) pe_int) pe_int) (pv 2)) pe_int))))), ?_⟩
  refine ⟨_, rfl, _, rfl, a, ns, i, rfl, hS, _, rfl, _, _, rfl, rfl, _, _, rfl, rfl, .inl ⟨by decide, by decide⟩, _, _, rfl, rfl, _, _, rfl, rfl, (by show (0 : Int) < 4294967291; decide), ?_⟩
  refine ⟨_, rfl, _, _, rfl, rfl, .inr ⟨by decide, by decide⟩, _, _, rfl, rfl, (by show (0 : Int) < 4294967279; decide), ?_⟩
  exact ⟨_, rfl, _, _, rfl, rfl, ⟨by decide, by decide⟩, _, _, rfl, rfl, .inr ⟨by decide, by decide⟩, _, rfl, _, _, rfl, rfl, _, _, rfl, rfl, (by show (0 : Int) < 4294967231; decide), q⟩
theorem sc_law_whole : FnScope ["_law_found"] ["_law_found"] (defScope s_law_whole) := ⟨rfl, rfl, rfl, by decide +kernel, rfl, by decide +kernel, by decide +kernel⟩
theorem ok_law_whole (T : Txt K mg A D) {k : Nat} : FnOk P w K mg base (CXF P w) (k + 1) A.law_whole D.law_whole ["_law_found"] spWhole := by
  refine T.F_law_whole.okF sc_law_whole (fun vs H Q E h => ?_) (fun cdv A' outer s H vs Q E hr h => ?_)
  · obtain ⟨_, rfl, _⟩ := h
    rfl
  obtain ⟨x, rfl, h⟩ := h
  refine ⟨_, (pss_one (ps_ret (pe_and (pe_callB call_isinst rfl T.z_isinstance bt_isinstance (pa_cons (pv 0) (pa_cons (pe_bltn (v := .ty "int") rfl T.z_int bt_int rfl) pa_nil))) (pe_one (pe_not (pe_callB call_isinst rfl T.z_isinstance bt_isinstance (pa_cons (pv 0) (pa_cons (pe_bltn (v := .ty "bool") rfl T.z_bool bt_bool rfl) pa_nil)))))))), ?_⟩
  rcases h with ⟨i, rfl, q⟩ | ⟨a, xs, rfl, ha, q⟩
  · refine ⟨_, rfl, _, _, _, _, _, rfl, rfl, .int i, T.k_int_int, _, rfl, iteT ?_⟩
    exact ⟨_, rfl, _, _, _, _, _, rfl, rfl, .int i, T.k_int_bool, _, rfl, q⟩
  · exact ⟨_, rfl, _, _, _, _, _, rfl, rfl, .tup ha, T.k_tuple_int, _, rfl, iteF q⟩
theorem sc_law_web : FnScope ["_law_script", "_law_k", "_law_places", "_law_many", "_law_dense", "_law_ties", "_law_one", "_law_other", "_law_number"] ["_law_script", "_law_k", "_law_places"] (defScope s_law_web) := ⟨rfl, rfl, rfl, by decide +kernel, rfl, by decide +kernel, by decide +kernel⟩
theorem ok_law_web (T : Txt K mg A D) {k : Nat} (G_law_mix : FnOk P w K mg base (CXF P w) k A.law_mix D.law_mix ["_law_script", "_law_k"] (spMix K)) : FnOk P w K mg base (CXF P w) (k + 1) A.law_web D.law_web ["_law_script", "_law_k", "_law_places"] (spLWeb K) := by
  refine T.F_law_web.okF sc_law_web (fun vs H Q E h => ?_) (fun cdv A' outer s H vs Q E hr h => ?_)
  · obtain ⟨_, _, _, _, rfl, _⟩ := h
    rfl
  obtain ⟨a, ns, k0, m, rfl, hS, hm0, hm8, q⟩ := h
  refine ⟨_, (pss_cons (ps_set (i := 3) sc_law_web.nd rfl (Or.inl rfl) (pe_op op_mod (pe_call G_law_mix hr rfl T.m_law_mix T.F_law_mix.kp T.b_law_mix .nil pass0F (pa_cons (pv 0) (pa_cons (pv 1) pa_nil))) (pe_op op_add (pv 2) pe_int)))
(pss_cons (ps_set (i := 4) sc_law_web.nd rfl (Or.inl rfl) (pe_op op_add pe_int (pe_op op_mod (pe_call G_law_mix hr rfl T.m_law_mix T.F_law_mix.kp T.b_law_mix .nil pass0F (pa_cons (pv 0) (pa_cons (pe_op op_add (pv 1) pe_int) pa_nil))) pe_int)))
(pss_cons (ps_set (i := 5) sc_law_web.nd rfl (Or.inl rfl) (pe_lst pa_nil))
(pss_cons (ps_for passesOwn_cx rfl (pi_range1 rfl T.z_range (pa_cons (pv 3) pa_nil)) (pg_name (i := 6) sc_law_web.nd rfl (Or.inl rfl))
(pss_one (ps_for passesOwn_cx rfl (pi_range2 rfl T.z_range (pa_cons (pe_op op_add (pv 6) pe_int) (pa_cons (pv 3) pa_nil))) (pg_name (i := 7) sc_law_web.nd rfl (Or.inl rfl))
(pss_cons (ps_set (i := 8) sc_law_web.nd rfl (Or.inl rfl) (pe_call G_law_mix hr rfl T.m_law_mix T.F_law_mix.kp T.b_law_mix .nil pass0F (pa_cons (pv 0) (pa_cons (pe_op op_add (pe_op op_add (pe_op op_add (pv 1) pe_int) (pe_op op_mul pe_int (pv 6))) (pv 7)) pa_nil))))
(pss_one (ps_if (pt_cmpR op_lt (pe_op op_mod (pe_op op_fdiv (pv 8) pe_int) pe_int) (pv 4) (nomark _))
(pss_one (ps_expr (pe_bm PySem.F.plainAttrs_list PySem.F.slot_list_append PySem.F.type_list_append mt_append (pv 5) (pa_cons (pe_tup (pa_cons (pv 6) (pa_cons (pv 7) (pa_cons (pe_ix ix_list (pe_lst (pa_cons pe_int (pa_cons pe_int (pa_cons pe_int (pa_cons pe_int (pa_cons pe_int (pa_cons pe_int pa_nil))))))) (pe_op op_mod (pe_op op_fdiv (pv 8) pe_int) pe_int) (fun _ _ => rfl)) pa_nil)))) pa_nil))))
pss_nil))))))
(pss_one (ps_ret (pe_tup (pa_cons (pv 3) (pa_cons (pv 5) pa_nil))))))))), ?_⟩
  refine ⟨_, rfl, _, rfl, a, ns, k0, rfl, hS, _, rfl, _, _, rfl, rfl, _, _, rfl, rfl, (by show 0 < m + 1; omega), ?_⟩
  have hn0 : 0 ≤ mixI ns k0 % (m + 1) := Int.emod_nonneg _ (by omega)
  have hn1 : mixI ns k0 % (m + 1) < m + 1 := Int.emod_lt_of_pos _ (by omega)
  dsimp only
  generalize mixI ns k0 % (m + 1) = n at hn0 hn1 ⊢
  refine ⟨_, rfl, _, rfl, _, _, rfl, rfl, a, ns, _, rfl, hS, _, _, rfl, rfl, (by show (0 : Int) < 4; decide), _, _, rfl, rfl, Nat.zero_le _, fun t ht => ?_⟩
  dsimp only
  generalize 1 + mixI ns (k0 + 1) % 4 = de
  have e0 : Same H (upd H t (.lst [])) := same_new ht
  refine ⟨_, rfl, _, rfl, by omega, by omega, ?_⟩
  refine for_in n.toNat (fun i σ H' => ∃ v6 v7 v8 ts xs, σ = [some (.ref a), some (.int k0), some (.int m), some (.int n), some (.int de), some (.ref t), v6, v7, v8] ∧ Same H H' ∧ H' t = some (.lst xs) ∧ DatL (mask t H') (ts.map tieD) xs ∧ TW n (i : Int) 0 ts ∧ ts.length ≤ 8 * i)
    ⟨none, none, none, [], [], rfl, e0, upd_same, .nil, .nil, Nat.zero_le _⟩ (fun i σ H' hi _ => hi) (fun σ H' _ => Nat.le_refl _) ?_ ?_
  · rintro i x σ H2 H3 hi ⟨v6, v7, v8, ts0, xs0, rfl, e2, hx0, dl0, tw0, hl0⟩ ⟨rfl, rfl⟩
    have ei : (0 : Int) + (i : Nat) = i := by omega
    rw [ei]
    refine ⟨_, rfl, _, _, rfl, rfl, _, rfl, _, _, rfl, ⟨by omega, by omega, by omega, by omega⟩, ?_⟩
    refine for_in (n - ((i : Int) + 1)).toNat (fun j σ H' => ∃ v7 v8 ts xs, σ = [some (.ref a), some (.int k0), some (.int m), some (.int n), some (.int de), some (.ref t), some (.int i), v7, v8] ∧ Same H H' ∧ H' t = some (.lst xs) ∧ DatL (mask t H') (ts.map tieD) xs ∧ TW n (i : Int) ((i : Int) + 1 + j) ts ∧ ts.length ≤ 8 * i + j)
      ⟨v7, v8, ts0, xs0, rfl, e2, hx0, dl0, tw0.later (by omega), by omega⟩ (fun j σ H' hj _ => hj) (fun σ H' _ => Nat.le_refl _) ?_ ?_
    · rintro j x σ H4 H5 hj ⟨v7, v8, ts, xs, rfl, e4, hx, dl, tw, hl⟩ ⟨rfl, rfl⟩
      have hS4 := e4.seq hS
      refine ⟨_, rfl, _, rfl, _, _, rfl, rfl, _, rfl, _, _, rfl, rfl, .inl ⟨by decide, by decide⟩, _, _, rfl, rfl, _, rfl, _, _, rfl, rfl, a, ns, _, rfl, hS4, ?_⟩
      have hx0 := mixI_nonneg ns (k0 + 2 + 8 * (i : Int) + ((i : Int) + 1 + (j : Nat)))
      dsimp only
      generalize mixI ns (k0 + 2 + 8 * (i : Int) + ((i : Int) + 1 + (j : Nat))) = nu at hx0 ⊢
      refine ⟨_, rfl, _, _, rfl, rfl, ⟨by decide, by decide⟩, _, _, rfl, rfl, (by show (0 : Int) < 4; decide), _, rfl, _, _, rfl, rfl, _, rfl, ite2 (fun c => ?_) (fun c => ?_)⟩
      · obtain ⟨wt, hw, hw1, hw2⟩ := weights_at (i := nu / 64 % 6) (Int.emod_nonneg _ (by decide)) (Int.emod_lt_of_pos _ (by decide))
        refine ⟨_, rfl, .inl ⟨rfl, _, SqL.of hx⟩, _, rfl, _, rfl, (by show 6 ≤ sizeLine; decide), fun p hp => ?_⟩
        refine ⟨_, rfl, _, _, rfl, rfl, ⟨by decide, by decide⟩, _, _, rfl, rfl, (by show (0 : Int) < 6; decide), _, _, _, _, rfl, rfl, SqL.of upd_same, hw, (by show 3 ≤ sizeLine; decide), fun r hr2 => ?_⟩
        have s1 := same_new (o := .lst [V.int 1, V.int 1, V.int 2, V.int 3, V.int 7, V.int 100]) hp
        have s2 := same_new (o := .tup [V.int i, V.int ((i : Int) + 1 + (j : Nat)), V.int wt]) hr2
        have s3 := s1.trans s2
        have hlx : xs.length = ts.length := by rw [← dl.length, List.length_map]
        have hrt : r ≠ t := ne_new hr2 (s1 _ _ hx)
        have ht4 : H t = none := ht
        refine ⟨_, _, _, rfl, rfl, s3 _ _ hx, (by rw [hlx, sizeLine_eq]; omega), _, _, ts ++ [[(i : Int), (i : Int) + 1 + (j : Nat), wt]], _, rfl, (e4.trans s3).put ht, upd_same, ?_, ?_, ?_⟩
        · rw [mask_upd, List.map_append]
          refine (dl.mono (mask_mono s3)).append (.cons (Dat.intsT (ns := [(i : Int), (i : Int) + 1 + (j : Nat), wt]) ?_) .nil)
          rw [mask_ne hrt]
          exact upd_same
        · have := tw.add (w := wt) (by omega) (by omega) (by omega) hw1 hw2
          have e : (i : Int) + 1 + ((j + 1 : Nat) : Int) = (i : Int) + 1 + (j : Nat) + 1 := by omega
          rw [e]
          exact this
        · rw [List.length_append]
          show ts.length + 1 ≤ _
          omega
      · exact ⟨_, _, ts, xs, rfl, e4, hx, dl, tw.later (by omega), by omega⟩
    · rintro σ H4 ⟨v7, v8, ts, xs, rfl, e4, hx, dl, tw, hl⟩
      exact ⟨_, _, _, ts, xs, rfl, e4, hx, dl, tw.later (by omega), by omega⟩
  · rintro σ H' ⟨v6, v7, v8, ts, xs, rfl, e2, hx, dl, tw, hl⟩
    refine ⟨_, rfl, _, rfl, (by show 2 ≤ sizeLine; decide), fun p hp => ?_⟩
    have s1 := same_new (o := .tup [V.int n, V.ref t]) hp
    have hw : webOk n ts = true := by
      unfold webOk
      rw [tw.ok, decide_eq_true hn0, decide_eq_true (show n ≤ 8 by omega)]
      rfl
    refine q _ _ n ts (e2.trans s1) (web_mk upd_same (s1 _ _ hx) (dl.mono (mask_same.trans s1))) hw (webIn_of hw (by omega)) (by omega) (by omega)
theorem sc_law_order : FnScope ["_law_script", "_law_k", "_law_many", "_law_left", "_law_found"] ["_law_script", "_law_k", "_law_many"] (defScope s_law_order) := ⟨rfl, rfl, rfl, by decide +kernel, rfl, by decide +kernel, by decide +kernel⟩
theorem ok_law_order (T : Txt K mg A D) {k : Nat} (G_law_mix : FnOk P w K mg base (CXF P w) k A.law_mix D.law_mix ["_law_script", "_law_k"] (spMix K)) : FnOk P w K mg base (CXF P w) (k + 1) A.law_order D.law_order ["_law_script", "_law_k", "_law_many"] (spLOrd K) := by
  refine T.F_law_order.okF sc_law_order (fun vs H Q E h => ?_) (fun cdv A' outer s H vs Q E hr h => ?_)
  · obtain ⟨_, _, _, _, rfl, _⟩ := h
    rfl
  obtain ⟨a, ns, k0, m, rfl, hS, hm0, hm8, q⟩ := h
  obtain ⟨N, rfl⟩ : ∃ N : Nat, m = N := ⟨m.toNat, by omega⟩
  refine ⟨_, (pss_cons (ps_set (i := 3) sc_law_order.nd rfl (Or.inl rfl) (pe_callTy (call_list_rng rfl) rfl T.z_list bt_list (pa_cons (pe_range1 rfl T.z_range (pa_cons (pv 2) pa_nil)) pa_nil)))
(pss_cons (ps_set (i := 4) sc_law_order.nd rfl (Or.inl rfl) (pe_lst pa_nil))
(pss_cons (ps_while passesOwn_cx (pt_truth (pv 3) (fun _ => rfl))
(pss_one (ps_expr (pe_bm PySem.F.plainAttrs_list PySem.F.slot_list_append PySem.F.type_list_append mt_append (pv 4) (pa_cons (pe_bm PySem.F.plainAttrs_list PySem.F.slot_list_pop PySem.F.type_list_pop mt_popAt (pv 3) (pa_cons (pe_op op_mod (pe_call G_law_mix hr rfl T.m_law_mix T.F_law_mix.kp T.b_law_mix .nil pass0F (pa_cons (pv 0) (pa_cons (pe_op op_add (pv 1) (pe_callB call_len_seq rfl T.z_len PySem.boot_len (pa_cons (pv 4) pa_nil))) pa_nil))) (pe_callB call_len_seq rfl T.z_len PySem.boot_len (pa_cons (pv 3) pa_nil))) pa_nil)) pa_nil)))))
(pss_one (ps_ret (pv 4)))))), ?_⟩
  refine ⟨_, rfl, N, rfl, fun r hr2 => ⟨r, N, rfl, upd_same, by omega, fun l hl => ?_⟩⟩
  refine ⟨Nat.zero_le _, fun f hf => ?_⟩
  have e1 := same_new (o := .rng 0 (N : Int)) hr2
  have e2 := same_new (o := .lst ((List.range N).map fun i : Nat => V.int (i : Int))) hl
  have e3 := same_new (o := .lst []) hf
  have hlf : l ≠ f := ne_of_none upd_same hf
  have e0 := (e1.trans e2).trans e3
  refine ⟨fun mm σ H' => ∃ (lf fd : List Int), σ = [some (.ref a), some (.int k0), some (.int N), some (.ref l), some (.ref f)] ∧ Same H H' ∧ H' l = some (.lst (lf.map .int)) ∧ H' f = some (.lst (fd.map .int)) ∧ (fd ++ lf).Perm (upto N) ∧ mm = lf.length,
    ⟨_, upto N, [], rfl, e0, ?_, upd_same, List.Perm.refl _, rfl⟩, ?_⟩
  · rw [upd_ne hlf, upd_same]
    unfold upto
    rw [List.map_map]
    rfl
  rintro mm σ H' ⟨lf, fd, rfl, e, hl', hf', hp, rfl⟩
  refine ⟨_, rfl, _, .inl ⟨_, SqL.of hl', rfl⟩, ?_⟩
  have hlen := hp.length_eq
  rw [List.length_append, upto_len] at hlen
  cases lf with
  | nil =>
    refine iteF ⟨_, rfl, ?_⟩
    rw [List.append_nil] at hp
    have ho := ordOk_perm hp
    exact q f H' fd ((e1.trans e2).free hf) e hf' ho (ordIn_of ho hm8)
  | cons y r =>
    refine iteT ⟨_, fun _ _ h => h, ?_⟩
    have hi0 : 0 ≤ mixI ns (k0 + ((fd.map V.int).length : Nat)) % (((y :: r).map V.int).length : Int) := Int.emod_nonneg _ (by rw [List.length_map, List.length_cons]; omega)
    have hi1 : mixI ns (k0 + ((fd.map V.int).length : Nat)) % (((y :: r).map V.int).length : Int) < (((y :: r).map V.int).length : Int) := Int.emod_lt_of_pos _ (by rw [List.length_map, List.length_cons]; omega)
    refine ⟨_, rfl, .inl ⟨rfl, _, SqL.of hf'⟩, _, rfl, .inl ⟨rfl, _, SqL.of hl'⟩, _, rfl, _, rfl, _, rfl, _, _, rfl, .inl (SqL.of hf'), _, _, rfl, rfl, a, ns, _, rfl, e.seq hS, _, rfl, _, _, rfl, .inl (SqL.of hl'), _, _, rfl, rfl, (by show (0 : Int) < (((y :: r).map V.int).length : Nat); rw [List.length_map, List.length_cons]; omega), ?_⟩
    dsimp only
    generalize mixI ns (k0 + ((fd.map V.int).length : Nat)) % (((y :: r).map V.int).length : Int) = i at hi0 hi1 ⊢
    have hi2 : i.toNat < (y :: r).length := by rw [List.length_map] at hi1; omega
    have hl8 : (y :: r).length ≤ 8 := by omega
    refine ⟨l, _, i, i.toNat, .int ((y :: r)[i.toNat]), rfl, rfl, hl', by omega, ?_, seq_nat hi0 hi1, ?_, f, fd.map V.int, _, rfl, rfl, ?_, ?_, ?_⟩
    · rw [List.length_map] at hi1
      have : (2 : Int) ^ 63 = 9223372036854775808 := by decide
      omega
    · rw [List.getElem?_map, List.getElem?_eq_getElem hi2]
      rfl
    · rw [upd_ne (Ne.symm hlf)]
      exact hf'
    · rw [List.length_map, sizeLine_eq]
      omega
    · refine ⟨((y :: r).eraseIdx i.toNat).length, ?_, (y :: r).eraseIdx i.toNat, fd ++ [(y :: r)[i.toNat]], rfl, ?_, ?_, ?_, ?_, rfl⟩
      · rw [List.length_eraseIdx_of_lt hi2]
        rw [List.length_cons]
        omega
      · exact (e.put (e1.free hl)).put ((e1.trans e2).free hf)
      · rw [upd_ne hlf, upd_same, map_erase]
      · rw [upd_same, List.map_append]
        rfl
      · rw [List.append_assoc]
        exact (List.Perm.append_left fd (perm_erase hi2)).trans hp
theorem sc_law_lengths : FnScope ["_law_web_here", "_law_order_here"] ["_law_web_here", "_law_order_here"] (defScope s_law_lengths) := ⟨rfl, rfl, rfl, by decide +kernel, rfl, by decide +kernel, by decide +kernel⟩
theorem nd_law_lengths_1 : List.Nodup (["_law_order_here", "_law_one", "_law_other", "_law_weight"] : List Str) := by decide +kernel
theorem ok_law_lengths (T : Txt K mg A D) {k : Nat} : FnOk P w K mg base (CXF P w) (k + 1) A.law_lengths D.law_lengths ["_law_web_here", "_law_order_here"] spLLens := by
  refine T.F_law_lengths.okF sc_law_lengths (fun vs H Q E h => ?_) (fun cdv A' outer s H vs Q E hr h => ?_)
  · obtain ⟨_, _, _, _, _, rfl, _⟩ := h
    rfl
  obtain ⟨v, l, n, ts, os, rfl, dv, hl0, hw, hin, ho, q⟩ := h
  obtain ⟨hol, hok, hon⟩ := ordOk_of ho
  obtain ⟨hn0, hn8, htt⟩ := webOk_of hw
  obtain ⟨a, tl, xs, rfl, ha, hl, dl⟩ := web_of dv
  have hlen : xs.length = ts.length := by rw [← dl.length, List.length_map]
  refine ⟨_, (pss_one (ps_ret (pe_lc rfl (cn_of (N := ["_law_order_here", "_law_one", "_law_other", "_law_weight"]) (js := [some 1, none, none, none]) rfl rfl (by decide +kernel) (by decide +kernel) rfl (List.forall_mem_cons.mpr ⟨rfl, fun _ h => nomatch h⟩) (List.forall_mem_cons.mpr ⟨(fun h => nomatch h), (List.forall_mem_cons.mpr ⟨(fun h => nomatch h), (List.forall_mem_cons.mpr ⟨(fun h => nomatch h), (List.forall_mem_cons.mpr ⟨(fun h => nomatch h), (List.forall_mem_cons.mpr ⟨(fun h => nomatch h), (List.forall_mem_cons.mpr ⟨(fun _ => rfl), fun _ h => nomatch h⟩)⟩)⟩)⟩)⟩)⟩) (List.forall_mem_cons.mpr ⟨(fun j h => (by cases h; exact ⟨rfl, rfl, rfl⟩)), (List.forall_mem_cons.mpr ⟨(fun j h => nomatch h), (List.forall_mem_cons.mpr ⟨(fun j h => nomatch h), (List.forall_mem_cons.mpr ⟨(fun j h => nomatch h), fun _ h => nomatch h⟩)⟩)⟩)⟩) rfl) (pi_list (pe_ix ix_tup (pv 0) pe_int (fun _ _ => rfl))) (fun _ _ _ _ => (pg_tupK (K := K) (n := 3) rfl rfl (pgs_cons (pg_name (i := 1) nd_law_lengths_1 rfl (Or.inl rfl) (hf := Or.inr rfl)) (pgs_cons (pg_name (i := 2) nd_law_lengths_1 rfl (Or.inl rfl) (hf := Or.inr rfl)) (pgs_cons (pg_name (i := 3) nd_law_lengths_1 rfl (Or.inl rfl) (hf := Or.inr rfl)) pgs_nil))) rfl rfl)) (fun _ _ _ _ => pts_nil) (fun _ _ _ _ => (pe_callB call_abs rfl T.z_abs bt_abs (pa_cons (pe_op op_sub (pe_bmK (K := K) rfl PySem.F.plainAttrs_list PySem.F.slot_list_index PySem.F.type_list_index (mt_indexK (K := K) rfl) (pv 0) (pa_cons (pv 1) pa_nil) rfl rfl rfl rfl rfl) (pe_bmK (K := K) rfl PySem.F.plainAttrs_list PySem.F.slot_list_index PySem.F.type_list_index (mt_indexK (K := K) rfl) (pv 0) (pa_cons (pv 2) pa_nil) rfl rfl rfl rfl rfl)) pa_nil)))))), ?_⟩
  refine ⟨_, rfl, _, _, _, _, rfl, rfl, SqT.of ha, rfl, tl, rfl, ⟨xs, SqL.of hl⟩, ?_⟩
  refine lc_in (fun σ => ∃ x y z, σ = [some (.ref l), x, y, z]) ts.length (fun i => .int (tieLen os (ts.getD i []))) ⟨none, none, none, rfl⟩ ?_ ?_ ?_ ?_ ?_
  · intro i H3 hi e3
    have hx : i < xs.length := by omega
    exact ⟨xs, xs[i], SqL.of (e3 _ _ hl), List.getElem?_eq_getElem hx⟩
  · intro H3 e3
    exact ⟨xs, SqL.of (e3 _ _ hl), by omega⟩
  · have := hin.len
    rw [sizeLine_eq]
    omega
  · rintro Dd i x σ2 H3 H4 N hi e3 hD ⟨x1, y1, z1, rfl⟩ ⟨rfl, hx⟩ fin
    obtain ⟨t, htt2⟩ : ∃ t, ts[i]? = some t := ⟨ts[i], List.getElem?_eq_getElem hi⟩
    obtain ⟨ta, hxa, hta⟩ := tie_at (dl.mono e3) htt2
    have hx2 := hx xs (SqL.of (e3 _ _ hl))
    rw [hxa] at hx2
    cases hx2
    have htd : ts.getD i [] = t := by rw [List.getD_eq_getElem?_getD, htt2]; rfl
    obtain ⟨pa, pb, pc, rfl, h1, h2, h3, h4, h5, h6⟩ := htt t (List.mem_of_getElem? htt2)
    have ma := ord_all ho h3 (by omega)
    have mb := ord_all ho h1 h2
    have hl3 := e3 _ _ hl0
    refine ⟨ta, _, rfl, SqT.of hta, rfl, _, _, rfl, _, _, rfl, _, _, rfl, rfl, ?_⟩
    refine ⟨_, rfl, .inl ⟨rfl, _, SqL.of hl3⟩, _, rfl, _, _, _, _, rfl, rfl, SqL.of hl3, flat_ints os, rfl, index_of ma, _, rfl, .inl ⟨rfl, _, SqL.of hl3⟩, _, rfl, _, _, _, _, rfl, rfl, SqL.of hl3, flat_ints os, rfl, index_of mb, _, _, rfl, rfl, _, rfl, ?_⟩
    refine fin _ _ _ ⟨_, _, _, rfl⟩ (Same.refl _) ?_
    rw [htd]
    exact .int
  · intro Dd ys H3 hD e3 hy dy
    have z : (List.range ts.length).map (fun i => PyData.int (tieLen os (ts.getD i []))) = (lens os ts).map .int := by
      rw [map_range_get (fun t => PyData.int (tieLen os t)) [] ts]
      unfold lens
      rw [List.map_map]
      rfl
    rw [z] at dy
    rw [dy.ints_of] at hy
    exact q Dd H3 hD e3 hy
theorem sc_law_gaps : FnScope ["_law_web_here", "_law_order_here", "_law_found", "_law_gap", "_law_over", "_law_one", "_law_other", "_law_weight", "_law_spots"] ["_law_web_here", "_law_order_here"] (defScope s_law_gaps) := ⟨rfl, rfl, rfl, by decide +kernel, rfl, by decide +kernel, by decide +kernel⟩
theorem ok_law_gaps (T : Txt K mg A D) {k : Nat} : FnOk P w K mg base (CXF P w) (k + 1) A.law_gaps D.law_gaps ["_law_web_here", "_law_order_here"] spLGaps := by
  refine T.F_law_gaps.okF sc_law_gaps (fun vs H Q E h => ?_) (fun cdv A' outer s H vs Q E hr h => ?_)
  · obtain ⟨_, _, _, _, _, rfl, _⟩ := h
    rfl
  obtain ⟨v, l, n, ts, os, rfl, dv, hl0, hw, hin, ho, q⟩ := h
  obtain ⟨hol, hok, hon⟩ := ordOk_of ho
  obtain ⟨hn0, hn8, htt⟩ := webOk_of hw
  obtain ⟨a, tl, xs, rfl, ha, hl, dl⟩ := web_of dv
  have hlen : xs.length = ts.length := by rw [← dl.length, List.length_map]
  refine ⟨_, (pss_cons (ps_set (i := 2) sc_law_gaps.nd rfl (Or.inl rfl) (pe_lst pa_nil))
(pss_cons (ps_for passesOwn_cx rfl (pi_range1 rfl T.z_range (pa_cons (pe_op op_sub (pe_callB call_len_seq rfl T.z_len PySem.boot_len (pa_cons (pv 1) pa_nil)) pe_int) pa_nil)) (pg_name (i := 3) sc_law_gaps.nd rfl (Or.inl rfl))
(pss_cons (ps_set (i := 4) sc_law_gaps.nd rfl (Or.inl rfl) pe_int)
(pss_cons (ps_for passesOwn_cx rfl (pi_list (pe_ix ix_tup (pv 0) pe_int (fun _ _ => rfl))) (pg_tup rfl (pgs_cons (pg_name (i := 5) sc_law_gaps.nd rfl (Or.inl rfl)) (pgs_cons (pg_name (i := 6) sc_law_gaps.nd rfl (Or.inl rfl)) (pgs_cons (pg_name (i := 7) sc_law_gaps.nd rfl (Or.inl rfl)) pgs_nil))))
(pss_cons (ps_set (i := 8) sc_law_gaps.nd rfl (Or.inl rfl) (pe_callB call_sorted rfl T.z_sorted bt_sorted (pa_cons (pe_lst (pa_cons (pe_bm PySem.F.plainAttrs_list PySem.F.slot_list_index PySem.F.type_list_index mt_index (pv 1) (pa_cons (pv 5) pa_nil)) (pa_cons (pe_bm PySem.F.plainAttrs_list PySem.F.slot_list_index PySem.F.type_list_index mt_index (pv 1) (pa_cons (pv 6) pa_nil)) pa_nil))) pa_nil)))
(pss_one (ps_set (i := 4) sc_law_gaps.nd rfl (Or.inl rfl) (pe_op op_add (pv 4) (pe_op op_mul (pv 7) (pe_callTy call_int1 rfl T.z_int bt_int (pa_cons (pe_chain op_le op_lt (pe_ix ix_list (pv 8) pe_int (fun _ _ => rfl)) (pv 3) (pe_ix ix_list (pv 8) pe_int (fun _ _ => rfl))) pa_nil))))))))
(pss_one (ps_expr (pe_bm PySem.F.plainAttrs_list PySem.F.slot_list_append PySem.F.type_list_append mt_append (pv 2) (pa_cons (pv 4) pa_nil)))))))
(pss_one (ps_ret (pv 2))))), ?_⟩
  refine ⟨Nat.zero_le _, fun f hf => ?_⟩
  have e0 : Same H (upd H f (.lst [])) := same_new hf
  refine ⟨_, rfl, _, _, rfl, .inl (SqL.of (e0 _ _ hl0)), _, _, rfl, rfl, _, rfl, (by rw [List.length_map, hol]; omega), (by rw [List.length_map, hol]; omega), ?_⟩
  have hj : ((os.map V.int).length : Int) - 1 = n - 1 := by rw [List.length_map, hol]
  rw [hj]
  refine for_in (n - 1).toNat (fun i σ H' => ∃ v3 v4 v5 v6 v7 v8, σ = [some (.ref a), some (.ref l), some (.ref f), v3, v4, v5, v6, v7, v8] ∧ Same H H' ∧ H' f = some (.lst (((List.range i).map (gapAt os ts)).map .int)))
    ⟨none, none, none, none, none, none, rfl, e0, upd_same⟩ (fun i σ H' hi _ => hi) (fun σ H' _ => Nat.le_refl _) ?_ ?_
  · rintro i x σ H2 H3 hi ⟨v3, v4, v5, v6, v7, v8, rfl, e2, hg⟩ ⟨rfl, rfl⟩
    have ei : (0 : Int) + (i : Nat) = i := by omega
    rw [ei]
    refine ⟨_, rfl, _, _, _, _, rfl, rfl, SqT.of (e2 _ _ ha), rfl, tl, rfl, ⟨xs, SqL.of (e2 _ _ hl)⟩, ?_⟩
    refine for_in ts.length (fun j σ H' => ∃ v5 v6 v7 v8, σ = [some (.ref a), some (.ref l), some (.ref f), some (.int i), some (.int (gapAt os (ts.take j) i)), v5, v6, v7, v8] ∧ Same H H' ∧ H' f = some (.lst (((List.range i).map (gapAt os ts)).map .int)))
      ⟨v5, v6, v7, v8, rfl, e2, hg⟩ ?_ ?_ ?_ ?_
    · rintro j σ H' hj ⟨v5, v6, v7, v8, rfl, e, hg'⟩
      have hx : j < xs.length := by omega
      exact ⟨xs, xs[j], SqL.of (e _ _ hl), List.getElem?_eq_getElem hx⟩
    · rintro σ H' ⟨v5, v6, v7, v8, rfl, e, hg'⟩
      exact ⟨xs, SqL.of (e _ _ hl), by omega⟩
    · rintro j x σ H4 H5 hj ⟨v5, v6, v7, v8, rfl, e, hg'⟩ ⟨rfl, hx⟩
      obtain ⟨t, htt2⟩ : ∃ t, ts[j]? = some t := ⟨ts[j], List.getElem?_eq_getElem hj⟩
      obtain ⟨ta, hxa, hta⟩ := tie_at (dl.mono e) htt2
      have hx2 := hx xs (SqL.of (e _ _ hl))
      rw [hxa] at hx2
      cases hx2
      have htk : ts.take (j + 1) = ts.take j ++ [t] := by rw [List.take_succ, htt2]; rfl
      obtain ⟨pa, pb, pc, rfl, h1, h2, h3, h4, h5, h6⟩ := htt t (List.mem_of_getElem? htt2)
      have ma := ord_all ho h3 (by omega)
      have mb := ord_all ho h1 h2
      have hl4 := e _ _ hl0
      refine ⟨ta, _, rfl, SqT.of hta, rfl, _, _, rfl, _, _, rfl, _, _, rfl, rfl, ?_⟩
      refine ⟨_, rfl, .inl ⟨rfl, _, SqL.of hl4⟩, _, rfl, _, _, _, _, rfl, rfl, SqL.of hl4, flat_ints os, rfl, index_of ma, _, rfl, .inl ⟨rfl, _, SqL.of hl4⟩, _, rfl, _, _, _, _, rfl, rfl, SqL.of hl4, flat_ints os, rfl, index_of mb, (by show 2 ≤ sizeLine; decide), fun p hp => ?_⟩
      refine ⟨p, [((idx os pa : Nat) : Int), ((idx os pb : Nat) : Int)], rfl, SqL.of upd_same, (by show 2 < 64; decide), fun sl ms hsl hp2 hs => ?_⟩
      have hms := sorted2 hp2 hs
      subst hms
      have s1 := same_new (o := .lst [V.int ((idx os pa : Nat) : Int), V.int ((idx os pb : Nat) : Int)]) hp
      have s2 := same_new (o := .lst ([((min (idx os pa) (idx os pb) : Nat) : Int), ((max (idx os pa) (idx os pb) : Nat) : Int)].map V.int)) hsl
      have e5 := (e.trans s1).trans s2
      have hg5 := s2 _ _ (s1 _ _ hg')
      have key1 : (min (idx os pa) (idx os pb) ≤ i ∧ i < max (idx os pa) (idx os pb)) → gapAt os (ts.take (j + 1)) i = gapAt os (ts.take j) i + pc * 1 := fun c => by
        rw [htk, gapAt_snoc, Int.mul_one]
        congr 1
        exact if_pos c
      have key0 : ¬ (min (idx os pa) (idx os pb) ≤ i ∧ i < max (idx os pa) (idx os pb)) → gapAt os (ts.take (j + 1)) i = gapAt os (ts.take j) i + pc * 0 := fun c => by
        rw [htk, gapAt_snoc, Int.mul_zero]
        congr 1
        exact if_neg c
      refine ⟨_, rfl, _, rfl, _, rfl, _, _, _, _, rfl, rfl, SqL.of upd_same, rfl, _, rfl, _, _, rfl, rfl, _, rfl, ite2 (fun c => ?_) (fun c => ?_)⟩
      · have c1 : ((min (idx os pa) (idx os pb) : Nat) : Int) ≤ i := of_decide_eq_true c
        refine ⟨_, rfl, _, _, _, _, rfl, rfl, SqL.of upd_same, rfl, _, _, rfl, rfl, .inr ⟨_, rfl, _, _, rfl, rfl, .inl ⟨by omega, by omega⟩, _, _, rfl, rfl, ?_⟩⟩
        refine ⟨some (.int pa), some (.int pb), some (.int pc), some (.ref sl), ?_, e5, hg5⟩
        dsimp only
        by_cases c2 : i < max (idx os pa) (idx os pb)
        · have c3 : decide ((i : Int) < ((max (idx os pa) (idx os pb) : Nat) : Int)) = true := decide_eq_true (by omega)
          rw [c3, key1 ⟨by omega, c2⟩]
          rfl
        · have c3 : decide ((i : Int) < ((max (idx os pa) (idx os pb) : Nat) : Int)) = false := decide_eq_false (by omega)
          rw [c3, key0 (fun z => c2 z.2)]
          rfl
      · have c1 : ¬ ((min (idx os pa) (idx os pb) : Nat) : Int) ≤ i := of_decide_eq_false (Bool.eq_false_iff.mpr c)
        refine .inr ⟨_, rfl, _, _, rfl, rfl, .inl ⟨by omega, by omega⟩, _, _, rfl, rfl, ?_⟩
        refine ⟨some (.int pa), some (.int pb), some (.int pc), some (.ref sl), ?_, e5, hg5⟩
        dsimp only
        rw [key0 (fun z => c1 (by have := z.1; omega))]
        rfl
    · rintro σ H4 ⟨v5, v6, v7, v8, rfl, e, hg'⟩
      rw [List.take_length]
      have hfl : (((List.range i).map (gapAt os ts)).map V.int).length < sizeLine := by
        rw [List.length_map, List.length_map, List.length_range, sizeLine_eq]
        omega
      refine ⟨_, rfl, .inl ⟨rfl, _, SqL.of hg'⟩, _, rfl, _, _, _, rfl, rfl, hg', hfl, _, _, _, _, _, _, rfl, e.put hf, ?_⟩
      rw [upd_same, List.range_succ, List.map_append, List.map_append]
      rfl
  · rintro σ H' ⟨v3, v4, v5, v6, v7, v8, rfl, e, hg⟩
    exact ⟨_, rfl, q f H' hf e hg⟩
theorem sc_law_measured : FnScope ["_law_web_here", "_law_kind", "_law_order_here", "_law_gaps_here"] ["_law_web_here", "_law_kind", "_law_order_here"] (defScope s_law_measured) := ⟨rfl, rfl, rfl, by decide +kernel, rfl, by decide +kernel, by decide +kernel⟩
theorem ok_law_measured (T : Txt K mg A D) {k : Nat} (G_law_lengths : FnOk P w K mg base (CXF P w) k A.law_lengths D.law_lengths ["_law_web_here", "_law_order_here"] spLLens) (G_law_gaps : FnOk P w K mg base (CXF P w) k A.law_gaps D.law_gaps ["_law_web_here", "_law_order_here"] spLGaps) :
    FnOk P w K mg base (CXF P w) (k + 1) A.law_measured D.law_measured ["_law_web_here", "_law_kind", "_law_order_here"] spLMeas := by
  refine T.F_law_measured.okF sc_law_measured (fun vs H Q E h => ?_) (fun cdv A' outer s H vs Q E hr h => ?_)
  · obtain ⟨_, _, _, _, _, _, rfl, _⟩ := h
    rfl
  obtain ⟨v, kd, l, n, ts, os, rfl, dv, hl, hw, win, hl64, ho, q1, q2, q3⟩ := h
  obtain ⟨hn0, hn8, _⟩ := webOk_of hw
  have htk : ∀ t ∈ ts, tieOk n t = true := by
    unfold webOk at hw
    rw [Bool.and_eq_true] at hw
    exact tiesOk_all hw.2
  refine ⟨_, (pss_cons (ps_if (pt_cmpR op_eq (pv 1) pe_str (nomark _))
(pss_one (ps_ret (pe_callB (call_maxL rfl) rfl T.z_max bt_max (pa_cons (pe_op op_cat (pe_lst (pa_cons pe_int pa_nil)) (pe_call G_law_lengths hr rfl T.m_law_lengths T.F_law_lengths.kp T.b_law_lengths .nil pass0F (pa_cons (pv 0) (pa_cons (pv 2) pa_nil)))) pa_nil))))
pss_nil)
(pss_cons (ps_set (i := 3) sc_law_measured.nd rfl (Or.inl rfl) (pe_call G_law_gaps hr rfl T.m_law_gaps T.F_law_gaps.kp T.b_law_gaps .nil pass0F (pa_cons (pv 0) (pa_cons (pv 2) pa_nil))))
(pss_one (ps_ret (pe_ifExp (pt_cmpR op_eq (pv 1) pe_str (nomark _)) (pe_callB (call_maxL rfl) rfl T.z_max bt_max (pa_cons (pe_op op_cat (pe_lst (pa_cons pe_int pa_nil)) (pv 3)) pa_nil)) (pe_callB (call_sum rfl) rfl T.z_sum bt_sum (pa_cons (pv 3) pa_nil))))))), ?_⟩
  refine ⟨_, rfl, rfl, _, rfl, ite_str (fun c => ?_) fun c1 => ?_⟩
  · refine ⟨(by show 1 ≤ sizeLine; decide), fun p1 hp1 => ?_⟩
    obtain ⟨s1, n1⟩ := new_pair (o := .lst [V.int 0]) hp1
    refine ⟨_, rfl, _, rfl, v, l, n, ts, os, rfl, dv.mono s1, s1 _ _ hl, hw, win, ho, fun p2 H2 hp2 e2 h2 => ?_⟩
    have hfl : ((lens os ts).map V.int).length ≤ 64 := by rw [List.length_map, lens_len]; exact hl64
    refine ⟨_, _, _, _, rfl, rfl, e2 _ _ n1, h2, (by rw [sizeLine_eq]; show 1 + _ ≤ _; omega), fun p3 hp3 => ?_⟩
    obtain ⟨s3, n3⟩ := new_pair (o := .lst ([V.int 0] ++ (lens os ts).map V.int)) hp3
    refine ⟨p3, [0] ++ lens os ts, rfl, SqL.of (n3.trans (by rw [List.map_append]; rfl)), (by simp), fun M hM => ?_⟩
    rw [isMax_zero lens_nonneg hM]
    exact q1 c _ ((s1.trans e2).trans s3)
  · refine ⟨_, rfl, _, rfl, v, l, n, ts, os, rfl, dv, hl, hw, win, ho, fun p2 H2 hp2 e2 h2 => ?_⟩
    have hgl : ((gapsL (n - 1).toNat os ts).map V.int).length ≤ 64 := by
      unfold gapsL
      rw [List.length_map, List.length_map, List.length_range]
      omega
    refine ⟨_, rfl, rfl, _, rfl, ite_str (fun c => ?_) fun c2 => ?_⟩
    · refine ⟨(by show 1 ≤ sizeLine; decide), fun p1 hp1 => ?_⟩
      obtain ⟨s1, n1⟩ := new_pair (o := .lst [V.int 0]) hp1
      refine ⟨_, rfl, _, _, _, _, rfl, rfl, n1, s1 _ _ h2, (by rw [sizeLine_eq]; show 1 + _ ≤ _; omega), fun p3 hp3 => ?_⟩
      obtain ⟨s3, n3⟩ := new_pair (o := .lst ([V.int 0] ++ (gapsL (n - 1).toNat os ts).map V.int)) hp3
      refine ⟨p3, [0] ++ gapsL (n - 1).toNat os ts, rfl, SqL.of (n3.trans (by rw [List.map_append]; rfl)), (by simp), fun M hM => ?_⟩
      rw [isMax_zero (gaps_nonneg htk) hM]
      exact q2 c _ ((e2.trans s1).trans s3)
    · refine ⟨_, rfl, p2, _, rfl, SqL.of h2, ?_⟩
      rw [gaps_sum ho htk]
      exact q3 c1 c2 _ e2
theorem ext_comp (n : Nat) (o : List Int) : (((List.range n).filter fun i : Nat => !decide ((i : Int) ∈ o)).map fun i : Nat => ordD (o ++ [(i : Int)])) = (extOf n o).map ordD := by
  unfold extOf upto
  rw [List.filter_map, List.map_map, List.map_map]
  rfl
theorem sc_law_all : FnScope ["_law_many", "_law_found", "_law_k", "_law_longer", "_law_order_here"] ["_law_many"] (defScope s_law_all) := ⟨rfl, rfl, rfl, by decide +kernel, rfl, by decide +kernel, by decide +kernel⟩
theorem nd_law_all_1 : List.Nodup (["_law_order_here", "_law_place"] : List Str) := by decide +kernel
theorem ok_law_all (T : Txt K mg A D) {k : Nat} : FnOk P w K mg base (CXF P w) (k + 1) A.law_all D.law_all ["_law_many"] spLAll := by
  refine T.F_law_all.okF sc_law_all (fun vs H Q E h => ?_) (fun cdv A' outer s H vs Q E hr h => ?_)
  · obtain ⟨_, rfl, _⟩ := h
    rfl
  obtain ⟨n, rfl, hn, q⟩ := h
  refine ⟨_, (pss_cons (ps_set (i := 1) sc_law_all.nd rfl (Or.inl rfl) (pe_lst (pa_cons (pe_lst pa_nil) pa_nil)))
(pss_cons (ps_for passesOwn_cx rfl (pi_range1 rfl T.z_range (pa_cons (pv 0) pa_nil)) (pg_name (i := 2) sc_law_all.nd rfl (Or.inl rfl))
(pss_cons (ps_set (i := 3) sc_law_all.nd rfl (Or.inl rfl) (pe_lst pa_nil))
(pss_cons (ps_for passesOwn_cx rfl (pi_list (pv 1)) (pg_name (i := 4) sc_law_all.nd rfl (Or.inr rfl))
(pss_one (ps_set (i := 3) sc_law_all.nd rfl (Or.inl rfl) (pe_op op_cat (pv 3) (pe_lc rfl (cn_of (N := ["_law_order_here", "_law_place"]) (js := [some 4, none]) rfl rfl (by decide +kernel) (by decide +kernel) rfl (List.forall_mem_cons.mpr ⟨rfl, fun _ h => nomatch h⟩) (List.forall_mem_cons.mpr ⟨(fun h => nomatch h), (List.forall_mem_cons.mpr ⟨(fun h => nomatch h), (List.forall_mem_cons.mpr ⟨(fun _ => rfl), fun _ h => nomatch h⟩)⟩)⟩) (List.forall_mem_cons.mpr ⟨(fun j h => (by cases h; exact ⟨rfl, rfl, rfl⟩)), (List.forall_mem_cons.mpr ⟨(fun j h => nomatch h), fun _ h => nomatch h⟩)⟩) rfl) (pi_range1 rfl T.z_range (pa_cons (pv 0) pa_nil)) (fun _ _ _ _ => (pg_name (i := 1) nd_law_all_1 rfl (Or.inl rfl) (hf := Or.inr rfl))) (fun _ _ _ _ => (pts_one (pt_cmpR (op_notIn_seqK (K := K) rfl) (pv 1) (pv 0) (by with_unfolding_all rfl)))) (fun _ _ _ _ => (pe_op op_cat (pv 0) (pe_lst (pa_cons (pv 1) pa_nil)))))))))
(pss_one (ps_set (i := 1) sc_law_all.nd rfl (Or.inl rfl) (pv 3))))))
(pss_one (ps_ret (pv 1))))), ?_⟩
  refine ⟨(by show 0 ≤ sizeLine; decide), fun p0 hp0 => ⟨(by show 1 ≤ sizeLine; decide), fun p1 hp1 => ?_⟩⟩
  obtain ⟨s0, n0⟩ := new_pair (o := .lst []) hp0
  obtain ⟨s1, n1⟩ := new_pair (o := .lst [V.ref p0]) hp1
  refine ⟨_, rfl, (n : Int), rfl, by omega, by omega, ?_⟩
  rw [Int.toNat_natCast]
  refine for_in n (fun i σ H' => ∃ fv v2 v3 v4, σ = [some (.int (n : Int)), some fv, v2, v3, v4] ∧ Same H H' ∧ Dat H' (.list ((allTo n i).map ordD)) fv)
    ⟨_, none, none, none, rfl, s0.trans s1, .list n1 (.cons (.list (s1 _ _ n0) .nil) .nil)⟩ (fun i σ H' hi _ => hi) (fun σ H' _ => Nat.le_refl _) ?_ ?_
  · rintro i x σ H4 H5 hi ⟨fv, v2, v3, v4, rfl, e4, df⟩ ⟨rfl, rfl⟩
    obtain ⟨fl, xs, rfl, hf, dx⟩ := df.list_of
    have hal := all_len hn i
    have h5 : 5 ^ i ≤ 3125 := show 5 ^ i ≤ 5 ^ 5 from Nat.pow_le_pow_right (by decide) (by omega)
    have hxl : xs.length = (allTo n i).length := by rw [← dx.length, List.length_map]
    refine ⟨(by show 0 ≤ sizeLine; decide), fun q1 hq1 => ?_⟩
    obtain ⟨sq, nq⟩ := new_pair (o := .lst []) hq1
    refine ⟨_, rfl, fl, rfl, ⟨_, SqL.of (sq _ _ hf)⟩, ?_⟩
    refine for_in xs.length (fun j σ H' => ∃ lv v4, σ = [some (.int (n : Int)), some (.ref fl), some (.int (0 + (i : Nat))), some lv, v4] ∧ Same H5 H' ∧ Dat H' (.list ((((allTo n i).take j).flatMap (extOf n)).map ordD)) lv)
      ⟨_, _, rfl, sq, .list nq .nil⟩ ?_ ?_ ?_ ?_
    · rintro j σ H' hj ⟨lv, v4', rfl, e, _⟩
      exact ⟨xs, xs[j], SqL.of (e _ _ hf), List.getElem?_eq_getElem hj⟩
    · rintro σ H' ⟨lv, v4', rfl, e, _⟩
      exact ⟨xs, SqL.of (e _ _ hf), Nat.le_refl _⟩
    · rintro j x σ H6 H7 hj ⟨lv, v4', rfl, e6, dlv⟩ ⟨rfl, hx⟩
      have hx2 := hx xs (SqL.of (e6 _ _ hf))
      have hja : j < (allTo n i).length := by omega
      obtain ⟨o, ho⟩ : ∃ o, (allTo n i)[j]? = some o := ⟨_, List.getElem?_eq_getElem hja⟩
      obtain ⟨y, hy, dy⟩ := (dx.mono e6).get (d := ordD o) (by rw [List.getElem?_map, ho]; rfl)
      rw [hx2] at hy
      cases hy
      obtain ⟨ol, rfl, hol⟩ := ord_of dy
      obtain ⟨ll, ys, rfl, hll, dys⟩ := dlv.list_of
      have hol5 : o.length = i := (mem_allTo.mp (List.mem_of_getElem? ho)).1
      refine ⟨_, rfl, _, rfl, (n : Int), rfl, by omega, by omega, ?_⟩
      rw [Int.toNat_natCast]
      refine lcf_in (fun σ => ∃ x, σ = [some (.ref ol), x]) n (fun i => !decide ((i : Int) ∈ o)) (fun i => ordD (o ++ [(i : Int)])) ⟨none, rfl⟩ (fun i H3 hi e3 => hi) (fun H3 e3 => Nat.le_refl _) (by rw [sizeLine_eq]; omega) ?_ ?_
      · rintro Dd m x σ2 H8 H9 Y Z hm e8 ⟨ysD, hD⟩ ⟨x1, rfl⟩ ⟨rfl, rfl⟩ yes no
        have em : (0 : Int) + (m : Nat) = ((m : Nat) : Int) := by omega
        rw [em]
        have ho8 := e8 _ _ hol
        refine ⟨_, rfl, _, rfl, ol, _, rfl, .inl (SqL.of ho8), rfl, flat_ints o, _, rfl, ?_⟩
        have hb : (if true = true then !inV (.int (m : Int)) (o.map V.int) else inV (.int (m : Int)) (o.map V.int)) = !decide ((m : Int) ∈ o) := by
          rw [if_pos rfl, in_ints]
        refine iteOf hb (fun c => ?_) (fun c => ?_)
        · refine ⟨_, rfl, _, rfl, (by show 1 ≤ sizeLine; decide), fun r1 hr1 => ?_⟩
          obtain ⟨t1, m1⟩ := new_pair (o := .lst [V.int (m : Int)]) hr1
          refine ⟨_, _, _, _, rfl, rfl, t1 _ _ ho8, m1, (by rw [sizeLine_eq, List.length_map]; show _ + 1 ≤ _; omega), fun r2 hr2 => ?_⟩
          obtain ⟨t2, m2⟩ := new_pair (o := .lst (o.map V.int ++ [V.int (m : Int)])) hr2
          refine yes _ _ _ c ⟨_, rfl⟩ (t1.trans t2) (Dat.ints ?_)
          rw [mask_ne (ne_new hr2 (t1 _ _ hD)), m2, List.map_append]
          rfl
        · exact no _ _ c ⟨_, rfl⟩ (Same.refl _)
      · intro Dd zs H8 hD e8 hzs dzs
        rw [ext_comp] at dzs
        have l1 := dys.length
        have l2 := dzs.length
        rw [List.length_map] at l1 l2
        have l3 := flat_len hn ((allTo n i).take j)
        have l4 := ext_len (n := n) o
        rw [List.length_take] at l3
        refine ⟨_, _, _, _, rfl, rfl, e8 _ _ hll, hzs, (by rw [sizeLine_eq]; omega), fun r hr => ?_⟩
        obtain ⟨t1, m1⟩ := new_pair (o := .lst (ys ++ zs)) hr
        refine ⟨_, _, rfl, e6.trans (e8.trans t1), .list m1 ?_⟩
        rw [List.take_succ, ho]
        show DatL _ ((List.flatMap (extOf n) ((allTo n i).take j ++ [o])).map ordD) _
        rw [List.flatMap_append, List.map_append]
        refine (dys.mono (e8.trans t1)).append ?_
        rw [List.flatMap_cons, List.flatMap_nil, List.append_nil]
        exact dzs.mono (mask_same.trans t1)
    · rintro σ H6 ⟨lv, v4', rfl, e6, dlv⟩
      rw [hxl, List.take_length] at dlv
      exact ⟨_, rfl, _, _, _, _, rfl, e4.trans e6, dlv⟩
  · rintro σ H' ⟨fv, v2, v3, v4, rfl, e, df⟩
    exact ⟨_, rfl, q fv H' e df⟩
theorem sc_law_refusal : FnScope ["_law_kept", "_law_kinds"] ["_law_kept"] (defScope s_law_refusal) := ⟨rfl, rfl, rfl, by decide +kernel, rfl, by decide +kernel, by decide +kernel⟩
theorem ok_law_refusal (T : Txt K mg A D) {k : Nat} : FnOk P w K mg base (CXF P w) (k + 1) A.law_refusal D.law_refusal ["_law_kept"] (spRef A.er) := by
  refine T.F_law_refusal.okF sc_law_refusal (fun vs H Q E h => ?_) (fun cdv A' outer s H vs Q E hr h => ?_)
  · obtain ⟨_, rfl, _⟩ := h
    rfl
  obtain ⟨x, rfl, h⟩ := h
  refine ⟨_, (pss_cons (ps_if (pt_cmp (pc_isN (pv 0)))
(pss_one (ps_ret pe_str))
pss_nil)
(pss_cons (ps_set (i := 1) sc_law_refusal.nd rfl (Or.inl rfl) (pe_lst (pa_cons (pe_callB call_isinstX rfl T.z_isinstance bt_isinstance (pa_cons (pv 0) (pa_cons (pe_glob (v := .ref A.BadKind) rfl T.m_BadKind rfl) pa_nil))) (pa_cons (pe_callB call_isinstX rfl T.z_isinstance bt_isinstance (pa_cons (pv 0) (pa_cons (pe_glob (v := .ref A.BadOrder) rfl T.m_BadOrder rfl) pa_nil))) (pa_cons (pe_callB call_isinstX rfl T.z_isinstance bt_isinstance (pa_cons (pv 0) (pa_cons (pe_glob (v := .ref A.BadSpot) rfl T.m_BadSpot rfl) pa_nil))) pa_nil)))))
(pss_cons (ps_set (i := 1) sc_law_refusal.nd rfl (Or.inl rfl) (pe_op op_cat (pv 1) (pe_lst (pa_cons (pe_callB call_isinstX rfl T.z_isinstance bt_isinstance (pa_cons (pv 0) (pa_cons (pe_glob (v := .ref A.BadText) rfl T.m_BadText rfl) pa_nil))) (pa_cons (pe_callB call_isinstX rfl T.z_isinstance bt_isinstance (pa_cons (pv 0) (pa_cons (pe_glob (v := .ref A.BadWeb) rfl T.m_BadWeb rfl) pa_nil))) pa_nil)))))
(pss_cons (ps_if (PW.pt (pw_or (pt_cmpR op_ne (pe_bm PySem.F.plainAttrs_list PySem.F.slot_list_count PySem.F.type_list_count mt_count (pv 1) (pa_cons pe_bl pa_nil)) pe_int (nomark _)) (pw_or1 (pt_not (pt_val (pe_callB call_isinstX rfl T.z_isinstance bt_isinstance (pa_cons (pv 0) (pa_cons (pe_bltn (v := .ty "ValueError") rfl T.z_ValueError bt_ValueError rfl) pa_nil))))))))
(pss_one (ps_ret pe_str))
pss_nil)
(pss_one (ps_ret (pe_ix ix_list (pe_lst (pa_cons pe_str (pa_cons pe_str (pa_cons pe_str (pa_cons pe_str (pa_cons pe_str pa_nil)))))) (pe_bm PySem.F.plainAttrs_list PySem.F.slot_list_index PySem.F.type_list_index mt_index (pv 1) (pa_cons pe_bl pa_nil)) (fun _ _ => rfl)))))))), ?_⟩
  rcases h with ⟨rfl, q⟩ | ⟨a, C, y, rfl, ha, hw, q⟩
  · exact ⟨_, rfl, _, rfl, iteDT rfl q⟩
  refine ⟨_, rfl, _, rfl, iteDF (fun z => nomatch z) ?_⟩
  obtain ⟨_, _, L, hV⟩ := ref_facts T hw
  obtain ⟨bK, bO, bS, bT, bW, j, h1, h2, h3, h4, h5, h6, h7, h8⟩ : ∃ (bK bO bS bT bW : Bool) (j : Nat), PySem.W.kitOne K (.ref C) (.ref A.BadKind) = some bK ∧ PySem.W.kitOne K (.ref C) (.ref A.BadOrder) = some bO ∧ PySem.W.kitOne K (.ref C) (.ref A.BadSpot) = some bS ∧ PySem.W.kitOne K (.ref C) (.ref A.BadText) = some bT ∧ PySem.W.kitOne K (.ref C) (.ref A.BadWeb) = some bW ∧
      V.int (([V.bl bK, V.bl bO, V.bl bS, V.bl bT, V.bl bW].countP fun z => eqV z (.bl true) : Nat) : Int) = V.int 1 ∧ [V.bl bK, V.bl bO, V.bl bS, V.bl bT, V.bl bW].findIdx? (fun z => eqV z (.bl true)) = some j ∧
      atI [V.str "kind", V.str "order", V.str "spot", V.str "text", V.str "web"] (j : Int) = some (.str y) := by
    rcases hw with ⟨rfl, rfl⟩ | ⟨rfl, rfl⟩ | ⟨rfl, rfl⟩ | ⟨rfl, rfl⟩ | ⟨rfl, rfl⟩
    · exact ⟨true, false, false, false, false, 0, T.i_BadKind_BadKind, T.i_BadKind_BadOrder, T.i_BadKind_BadSpot, T.i_BadKind_BadText, T.i_BadKind_BadWeb, rfl, rfl, rfl⟩
    · exact ⟨false, true, false, false, false, 1, T.i_BadOrder_BadKind, T.i_BadOrder_BadOrder, T.i_BadOrder_BadSpot, T.i_BadOrder_BadText, T.i_BadOrder_BadWeb, rfl, rfl, rfl⟩
    · exact ⟨false, false, true, false, false, 2, T.i_BadSpot_BadKind, T.i_BadSpot_BadOrder, T.i_BadSpot_BadSpot, T.i_BadSpot_BadText, T.i_BadSpot_BadWeb, rfl, rfl, rfl⟩
    · exact ⟨false, false, false, true, false, 3, T.i_BadText_BadKind, T.i_BadText_BadOrder, T.i_BadText_BadSpot, T.i_BadText_BadText, T.i_BadText_BadWeb, rfl, rfl, rfl⟩
    · exact ⟨false, false, false, false, true, 4, T.i_BadWeb_BadKind, T.i_BadWeb_BadOrder, T.i_BadWeb_BadSpot, T.i_BadWeb_BadText, T.i_BadWeb_BadWeb, rfl, rfl, rfl⟩
  refine ⟨_, rfl, _, _, _, _, _, rfl, rfl, ha, L, h1, _, rfl, _, _, _, _, _, rfl, rfl, ha, L, h2, _, rfl, _, _, _, _, _, rfl, rfl, ha, L, h3, (by show 3 ≤ sizeLine; decide), fun p hp => ?_⟩
  have s1 := same_new (o := .lst [V.bl bK, V.bl bO, V.bl bS]) hp
  refine ⟨_, rfl, _, rfl, _, _, _, _, _, rfl, rfl, s1 _ _ ha, L, h4, _, rfl, _, _, _, _, _, rfl, rfl, s1 _ _ ha, L, h5, (by show 2 ≤ sizeLine; decide), fun p2 hp2 => ?_⟩
  have s2 := same_new (o := .lst [V.bl bT, V.bl bW]) hp2
  refine ⟨_, _, _, _, rfl, rfl, s2 _ _ upd_same, upd_same, (by show 5 ≤ sizeLine; decide), fun p3 hp3 => ?_⟩
  have s3 := same_new (o := .lst ([V.bl bK, V.bl bO, V.bl bS] ++ [V.bl bT, V.bl bW])) hp3
  have ha3 := s3 _ _ (s2 _ _ (s1 _ _ ha))
  refine ⟨_, rfl, .inl ⟨rfl, _, SqL.of upd_same⟩, _, _, _, rfl, rfl, SqL.of upd_same, rfl, rfl, rfl, _, rfl, iteNS h6 ?_⟩
  refine ⟨_, rfl, _, _, _, _, _, rfl, rfl, ha3, L, hV, _, rfl, iteF ?_⟩
  refine ⟨(by show 5 ≤ sizeLine; decide), fun p4 hp4 => ?_⟩
  have s4 := same_new (o := .lst [V.str "kind", V.str "order", V.str "spot", V.str "text", V.str "web"]) hp4
  exact ⟨_, rfl, .inl ⟨rfl, _, SqL.of (s4 _ _ upd_same)⟩, _, _, _, _, rfl, rfl, SqL.of (s4 _ _ upd_same), rfl, rfl, h7, _, _, _, _, rfl, rfl, SqL.of upd_same, h8, q _ (((s1.trans s2).trans s3).trans s4)⟩
theorem sc_law_two : FnScope ["_law_many"] ["_law_many"] (defScope s_law_two) := ⟨rfl, rfl, rfl, by decide +kernel, rfl, by decide +kernel, by decide +kernel⟩
theorem ok_law_two (T : Txt K mg A D) {k : Nat} : FnOk P w K mg base (CXF P w) (k + 1) A.law_two D.law_two ["_law_many"] spTwo := by
  refine T.F_law_two.okF sc_law_two (fun vs H Q E h => ?_) (fun cdv A' outer s H vs Q E hr h => ?_)
  · obtain ⟨_, rfl, _⟩ := h
    rfl
  obtain ⟨n, rfl, hn, q⟩ := h
  refine ⟨_, (pss_one (ps_ret (pe_ix ix_list (pe_lst (pa_cons pe_int (pa_cons pe_int (pa_cons pe_int (pa_cons pe_int (pa_cons pe_int (pa_cons pe_int pa_nil))))))) (pv 0) (fun _ _ => rfl)))), ?_⟩
  refine ⟨(by show 6 ≤ sizeLine; decide), fun p hp => ?_⟩
  obtain ⟨s1, n1⟩ := new_pair (o := .lst [V.int 1, V.int 2, V.int 4, V.int 8, V.int 16, V.int 32]) hp
  exact ⟨_, rfl, p, _, _, _, rfl, rfl, SqL.of n1, two_at hn, q _ s1⟩
theorem sc_law_cut : FnScope ["_law_web_here", "_law_some"] ["_law_web_here", "_law_some"] (defScope s_law_cut) := ⟨rfl, rfl, rfl, by decide +kernel, rfl, by decide +kernel, by decide +kernel⟩
theorem nd_law_cut_1 : List.Nodup (["_law_some", "_law_one", "_law_other", "_law_weight"] : List Str) := by decide +kernel
theorem ok_law_cut (T : Txt K mg A D) {k : Nat} (G_law_two : FnOk P w K mg base (CXF P w) k A.law_two D.law_two ["_law_many"] spTwo) : FnOk P w K mg base (CXF P w) (k + 1) A.law_cut D.law_cut ["_law_web_here", "_law_some"] spLCut := by
  refine T.F_law_cut.okF sc_law_cut (fun vs H Q E h => ?_) (fun cdv A' outer s H vs Q E hr h => ?_)
  · obtain ⟨_, _, _, _, rfl, _⟩ := h
    rfl
  obtain ⟨v, n, ts, S, rfl, dv, hw, hin, hn, q⟩ := h
  obtain ⟨hn0, hn8, htt⟩ := webOk_of hw
  obtain ⟨a, tl, xs, rfl, ha, hl, dl⟩ := web_of dv
  have hlen : xs.length = ts.length := by rw [← dl.length, List.length_map]
  have hts := hin.len
  refine ⟨_, (pss_one (ps_ret (pe_callB (call_sum rfl) rfl T.z_sum bt_sum (pa_cons (pe_lc rfl (cn_of (N := ["_law_some", "_law_one", "_law_other", "_law_weight"]) (js := [some 1, none, none, none]) rfl rfl (by decide +kernel) (by decide +kernel) rfl (List.forall_mem_cons.mpr ⟨rfl, fun _ h => nomatch h⟩) (List.forall_mem_cons.mpr ⟨(fun h => nomatch h), (List.forall_mem_cons.mpr ⟨(fun h => nomatch h), (List.forall_mem_cons.mpr ⟨(fun h => nomatch h), (List.forall_mem_cons.mpr ⟨(fun h => nomatch h), (List.forall_mem_cons.mpr ⟨(fun h => nomatch h), (List.forall_mem_cons.mpr ⟨(fun _ => rfl), fun _ h => nomatch h⟩)⟩)⟩)⟩)⟩)⟩) (List.forall_mem_cons.mpr ⟨(fun j h => (by cases h; exact ⟨rfl, rfl, rfl⟩)), (List.forall_mem_cons.mpr ⟨(fun j h => nomatch h), (List.forall_mem_cons.mpr ⟨(fun j h => nomatch h), (List.forall_mem_cons.mpr ⟨(fun j h => nomatch h), fun _ h => nomatch h⟩)⟩)⟩)⟩) rfl) (pi_list (pe_ix ix_tup (pv 0) pe_int (fun _ _ => rfl))) (fun _ _ _ _ => (pg_tupK (K := K) (n := 3) rfl rfl (pgs_cons (pg_name (i := 1) nd_law_cut_1 rfl (Or.inl rfl) (hf := Or.inr rfl)) (pgs_cons (pg_name (i := 2) nd_law_cut_1 rfl (Or.inl rfl) (hf := Or.inr rfl)) (pgs_cons (pg_name (i := 3) nd_law_cut_1 rfl (Or.inl rfl) (hf := Or.inr rfl)) pgs_nil))) rfl rfl)) (fun _ _ _ _ => (pts_one (pt_cmpR op_ne (pe_op op_mod (pe_op op_fdiv (pv 0) (pe_call G_law_two hr rfl T.m_law_two T.F_law_two.kp T.b_law_two .nil pass0F (pa_cons (pv 1) pa_nil))) pe_int) (pe_op op_mod (pe_op op_fdiv (pv 0) (pe_call G_law_two hr rfl T.m_law_two T.F_law_two.kp T.b_law_two .nil pass0F (pa_cons (pv 2) pa_nil))) pe_int) (nomark _)))) (fun _ _ _ _ => (pv 3))) pa_nil)))), ?_⟩
  refine ⟨_, rfl, _, _, _, _, rfl, rfl, SqT.of ha, rfl, tl, rfl, ⟨xs, SqL.of hl⟩, ?_⟩
  refine lcf_in (fun σ => ∃ x y z, σ = [some (.int S), x, y, z]) ts.length (fun i => cne S (ts.getD i [])) (fun i => .int (w3 (ts.getD i []))) ⟨none, none, none, rfl⟩ ?_ ?_ (by rw [sizeLine_eq]; omega) ?_ ?_
  · intro i H4 hi4 e4
    have hx : i < xs.length := by omega
    exact ⟨xs, xs[i], SqL.of (e4 _ _ hl), List.getElem?_eq_getElem hx⟩
  · intro H4 e4
    exact ⟨xs, SqL.of (e4 _ _ hl), by omega⟩
  · rintro Dd i x σ2 H4 H5 Y Z hi4 e4 hD ⟨x1, y1, z1, rfl⟩ ⟨rfl, hx⟩ yes no
    obtain ⟨t, htt2⟩ : ∃ t, ts[i]? = some t := ⟨ts[i], List.getElem?_eq_getElem hi4⟩
    obtain ⟨ta, hxa, hta⟩ := tie_at (dl.mono e4) htt2
    have hx2 := hx xs (SqL.of (e4 _ _ hl))
    rw [hxa] at hx2
    cases hx2
    have htd : ts.getD i [] = t := by rw [List.getD_eq_getElem?_getD, htt2]; rfl
    obtain ⟨pa, pb, pc, rfl, h1, h2, h3, h4, h5, h6⟩ := htt t (List.mem_of_getElem? htt2)
    obtain ⟨pa, rfl⟩ : ∃ m : Nat, pa = m := ⟨pa.toNat, by omega⟩
    obtain ⟨pb, rfl⟩ : ∃ m : Nat, pb = m := ⟨pb.toNat, by omega⟩
    have p32 : ∀ m : Nat, m ≤ 5 → (0 : Int) < ((2 ^ m : Nat) : Int) ∧ ((2 ^ m : Nat) : Int) < 1073741824 := fun m hm => by
      have z1 := two_pos m
      have z2 : 2 ^ m ≤ 2 ^ 5 := Nat.pow_le_pow_right (by decide) hm
      constructor
      · exact Int.ofNat_lt.mpr z1
      · exact Int.lt_of_le_of_lt (Int.ofNat_le.mpr z2) (by decide)
    refine ⟨ta, _, rfl, SqT.of hta, rfl, _, _, rfl, _, _, rfl, _, _, rfl, rfl, ?_⟩
    refine ⟨_, rfl, _, rfl, pa, rfl, by omega, fun H6 e6 => ⟨_, _, rfl, rfl, p32 pa (by omega), _, _, rfl, rfl, (by show (0 : Int) < 2; decide), _, rfl, _, rfl, pb, rfl, by omega, fun H7 e7 => ⟨_, _, rfl, rfl, p32 pb (by omega), _, _, rfl, rfl, (by show (0 : Int) < 2; decide), rfl, _, rfl, ?_⟩⟩⟩
    have e57 := e6.trans e7
    have hb : (!decide (V.int ((S : Int) / ((2 ^ pa : Nat) : Int) % 2) = V.int ((S : Int) / ((2 ^ pb : Nat) : Int) % 2))) = cne S (ts.getD i []) := by
      rw [bit_div, bit_div, bit_same, htd]
      rfl
    refine iteOf hb (fun c => ?_) (fun c => ?_)
    · refine ⟨_, rfl, yes _ _ _ c ⟨_, _, _, rfl⟩ e57 ?_⟩
      rw [htd]
      exact .int
    · exact no _ _ c ⟨_, _, _, rfl⟩ e57
  · intro Dd ys H4 hD e4 hy dy
    have z : (((List.range ts.length).filter fun i => cne S (ts.getD i [])).map fun i => PyData.int (w3 (ts.getD i []))) = (((List.range ts.length).filter fun i => cne S (ts.getD i [])).map fun i => w3 (ts.getD i [])).map .int := by
      rw [List.map_map]
      rfl
    rw [z] at dy
    rw [dy.ints_of] at hy
    refine ⟨Dd, _, rfl, SqL.of hy, ?_⟩
    rw [cut_sum]
    exact q H4 e4
theorem set_mid {α : Type} (x b : α) (bs : List α) : ∀ as : List α, (as ++ b :: bs).set as.length x = as ++ x :: bs
  | [] => rfl
  | a :: as => by
    show a :: (as ++ b :: bs).set as.length x = a :: (as ++ x :: bs)
    rw [set_mid x b bs as]
theorem rep_one {α : Type} (x : α) : ∀ k : Nat, (List.replicate k [x]).flatten = List.replicate k x
  | 0 => rfl
  | k + 1 => by
    rw [List.replicate_succ, List.flatten_cons, rep_one x k]
    rfl
theorem fewer_succ (j S : Nat) : fewer (j + 1) S = fewer j S ++ if bit S j = true then [S - 2 ^ j] else [] := by
  unfold fewer spots
  rw [List.range_succ, List.filter_append, List.map_append, List.filter_cons]
  by_cases c : bit S j = true
  · rw [if_pos c, if_pos c]
    rfl
  · rw [if_neg c, if_neg c]
    rfl
theorem sc_law_prices : FnScope ["_law_web_here", "_law_best", "_law_some", "_law_ways", "_law_place"] ["_law_web_here"] (defScope s_law_prices) := ⟨rfl, rfl, rfl, by decide +kernel, rfl, by decide +kernel, by decide +kernel⟩
theorem ok_law_prices (T : Txt K mg A D) {k : Nat} (G_law_two : FnOk P w K mg base (CXF P w) k A.law_two D.law_two ["_law_many"] spTwo) (G_law_cut : FnOk P w K mg base (CXF P w) k A.law_cut D.law_cut ["_law_web_here", "_law_some"] spLCut) : FnOk P w K mg base (CXF P w) (k + 1) A.law_prices D.law_prices ["_law_web_here"] spLPrices := by
  refine T.F_law_prices.okF sc_law_prices (fun vs H Q E h => ?_) (fun cdv A' outer s H vs Q E hr h => ?_)
  · obtain ⟨_, _, _, rfl, _⟩ := h
    rfl
  obtain ⟨v, N, ts, rfl, dv, hw, hin, hn, q⟩ := h
  obtain ⟨a, tl, xs, rfl, ha, hl, dl⟩ := web_of dv
  have h32 : 2 ^ N ≤ 32 := show 2 ^ N ≤ 2 ^ 5 from Nat.pow_le_pow_right (by decide) hn
  have hpos := two_pos N
  have p32 : ∀ m : Nat, m ≤ 5 → (0 : Int) < ((2 ^ m : Nat) : Int) ∧ ((2 ^ m : Nat) : Int) < 1073741824 := fun m hm => by
    have z1 := two_pos m
    have z2 : 2 ^ m ≤ 2 ^ 5 := Nat.pow_le_pow_right (by decide) hm
    constructor
    · exact Int.ofNat_lt.mpr z1
    · exact Int.lt_of_le_of_lt (Int.ofNat_le.mpr z2) (by decide)
  refine ⟨_, (pss_cons (ps_set (i := 1) sc_law_prices.nd rfl (Or.inl rfl) (pe_op op_rep (pe_lst (pa_cons pe_int pa_nil)) (pe_call G_law_two hr rfl T.m_law_two T.F_law_two.kp T.b_law_two .nil pass0F (pa_cons (pe_ix ix_tup (pv 0) pe_int (fun _ _ => rfl)) pa_nil))))
(pss_cons (ps_for passesOwn_cx rfl (pi_range2 rfl T.z_range (pa_cons pe_int (pa_cons (pe_callB call_len_seq rfl T.z_len PySem.boot_len (pa_cons (pv 1) pa_nil)) pa_nil))) (pg_name (i := 2) sc_law_prices.nd rfl (Or.inl rfl))
(pss_cons (ps_set (i := 3) sc_law_prices.nd rfl (Or.inl rfl) (pe_lst pa_nil))
(pss_cons (ps_for passesOwn_cx rfl (pi_range1 rfl T.z_range (pa_cons (pe_ix ix_tup (pv 0) pe_int (fun _ _ => rfl)) pa_nil)) (pg_name (i := 4) sc_law_prices.nd rfl (Or.inl rfl))
(pss_one (ps_if (pt_cmpR op_eq (pe_op op_mod (pe_op op_fdiv (pv 2) (pe_call G_law_two hr rfl T.m_law_two T.F_law_two.kp T.b_law_two .nil pass0F (pa_cons (pv 4) pa_nil))) pe_int) pe_int (nomark _))
(pss_one (ps_expr (pe_bm PySem.F.plainAttrs_list PySem.F.slot_list_append PySem.F.type_list_append mt_append (pv 3) (pa_cons (pe_ix ix_list (pv 1) (pe_op op_sub (pv 2) (pe_call G_law_two hr rfl T.m_law_two T.F_law_two.kp T.b_law_two .nil pass0F (pa_cons (pv 4) pa_nil))) (fun _ _ => rfl)) pa_nil))))
pss_nil)))
(pss_one (ps_asg (pe_op op_add (pe_callB (call_minL rfl) rfl T.z_min bt_min (pa_cons (pv 3) pa_nil)) (pe_call G_law_cut hr rfl T.m_law_cut T.F_law_cut.kp T.b_law_cut .nil pass0F (pa_cons (pv 0) (pa_cons (pv 2) pa_nil)))) (pg_sub (pv 1) (pv 2) set_list))))))
(pss_one (ps_ret (pv 1))))), ?_⟩
  refine ⟨(by show 1 ≤ sizeLine; decide), fun p0 hp0 => ?_⟩
  obtain ⟨s0, n0⟩ := new_pair (o := .lst [V.int 0]) hp0
  refine ⟨_, rfl, _, _, _, _, rfl, rfl, SqT.of (s0 _ _ ha), rfl, N, rfl, hn, fun H1 e1 => ?_⟩
  obtain ⟨M, hM⟩ : ∃ M, 2 ^ N = M := ⟨_, rfl⟩
  have hlt : ∀ {S}, S < M → S < 2 ^ N := fun h => by rw [hM]; exact h
  rw [hM] at h32 hpos q
  have hM2 : ((2 ^ N : Nat) : Int) = (M : Int) := congrArg _ hM
  rw [hM2]
  refine ⟨p0, _, _, rfl, rfl, e1 _ _ n0, by omega, by omega, (by rw [sizeLine_eq, Int.toNat_natCast]; show 1 * M ≤ _; omega), fun p1 hp1 => ?_⟩
  rw [Int.toNat_natCast, rep_one]
  obtain ⟨s1, n1⟩ := new_pair (o := .lst (List.replicate M (V.int 0))) hp1
  have hlo : ((List.replicate M (V.int 0)).length : Int) = (M : Int) := by rw [List.length_replicate]
  refine ⟨_, rfl, _, _, rfl, .inl (SqL.of n1), _, _, rfl, ?_⟩
  rw [hlo]
  refine ⟨⟨by omega, by omega, by omega, by omega⟩, ?_⟩
  have hto : ((M : Int) - 1).toNat = M - 1 := by omega
  rw [hto]
  have e01 := s0.trans e1
  refine for_in (M - 1) (fun i σ H' => ∃ v2 v3 v4, σ = [some (.ref a), some (.ref p1), v2, v3, v4] ∧ Same H1 H' ∧ H' p1 = some (.lst ((prs N ts (i + 1) ++ List.replicate (M - 1 - i) 0).map .int)))
    ⟨none, none, none, rfl, s1, by
      rw [n1]
      obtain ⟨m, rfl⟩ : ∃ m, M = m + 1 := ⟨M - 1, by omega⟩
      rw [Nat.add_sub_cancel, Nat.sub_zero, List.map_append, List.map_replicate]
      rfl⟩ (fun i σ H' hi _ => hi) (fun σ H' _ => Nat.le_refl _) ?_ ?_
  · rintro i x σ H4 H5 hi ⟨v2, v3, v4, rfl, e4, hb⟩ ⟨rfl, rfl⟩
    have ei : (1 : Int) + (i : Nat) = ((i + 1 : Nat) : Int) := by omega
    rw [ei]
    have hS : i + 1 < 2 ^ N := hlt (by omega)
    refine ⟨(by show 0 ≤ sizeLine; decide), fun q1 hq1 => ?_⟩
    obtain ⟨sq, nq⟩ := new_pair (o := .lst []) hq1
    refine ⟨_, rfl, _, _, _, _, rfl, rfl, SqT.of (sq _ _ (e4 _ _ (e01 _ _ ha))), rfl, (N : Int), rfl, by omega, by omega, ?_⟩
    rw [Int.toNat_natCast]
    refine for_in N (fun j σ H' => ∃ v4, σ = [some (.ref a), some (.ref p1), some (.int ((i + 1 : Nat) : Int)), some (.ref q1), v4] ∧ Same H5 H' ∧ H' q1 = some (.lst (((fewer j (i + 1)).map fun f => (prs N ts (i + 1)).getD f 0).map .int)))
      ⟨_, rfl, sq, nq⟩ (fun i σ H' hi _ => hi) (fun σ H' _ => Nat.le_refl _) ?_ ?_
    · rintro j x σ H6 H7 hj ⟨v4', rfl, e6, hq⟩ ⟨rfl, rfl⟩
      have ej : (0 : Int) + (j : Nat) = ((j : Nat) : Int) := by omega
      rw [ej]
      refine ⟨_, rfl, _, rfl, j, rfl, by omega, fun H8 e8 => ⟨_, _, rfl, rfl, p32 j (by omega), _, _, rfl, rfl, (by show (0 : Int) < 2; decide), rfl, _, rfl, ?_⟩⟩
      have hbt : decide (V.int (((i + 1 : Nat) : Int) / ((2 ^ j : Nat) : Int) % 2) = V.int 1) = bit (i + 1) j := by
        rw [bit_div]
        exact bit_one
      refine iteOf hbt (fun c => ?_) (fun c => ?_)
      · have hle := bit_le c
        have hsub : ((i + 1 : Nat) : Int) - ((2 ^ j : Nat) : Int) = ((i + 1 - 2 ^ j : Nat) : Int) := by rw [Int.ofNat_sub hle]
        have h1 := two_pos j
        have hq8 := e8 _ _ hq
        refine ⟨_, rfl, .inl ⟨rfl, _, SqL.of hq8⟩, _, rfl, _, rfl, _, rfl, j, rfl, by omega, fun H9 e9 => ?_⟩
        have hb9 := e9 _ _ (e8 _ _ (e6 _ _ hb))
        have hat : atI ((prs N ts (i + 1) ++ List.replicate (M - 1 - i) 0).map V.int) (((i + 1 : Nat) : Int) - ((2 ^ j : Nat) : Int)) = some (.int ((prs N ts (i + 1)).getD (i + 1 - 2 ^ j) 0)) := by
          rw [hsub, atI_at (by rw [List.length_append, prs_len]; omega), getD_append_left (by rw [prs_len]; omega)]
        have hq9 := e9 _ _ hq8
        have hql : (((fewer j (i + 1)).map fun f => (prs N ts (i + 1)).getD f 0).map V.int).length ≤ j := by
          rw [List.length_map, List.length_map]
          unfold fewer spots
          rw [List.length_map]
          exact Nat.le_trans (List.length_filter_le _ _) (by rw [List.length_range]; exact Nat.le_refl _)
        refine ⟨_, _, rfl, rfl, p1, _, _, _, rfl, rfl, SqL.of hb9, hat, _, _, _, rfl, rfl, hq9, by rw [sizeLine_eq]; omega, _, rfl, (e6.trans (e8.trans e9)).put hq1, ?_⟩
        rw [upd_same, fewer_succ, if_pos c, List.map_append, List.map_append]
        rfl
      · refine ⟨_, rfl, e6.trans e8, ?_⟩
        rw [e8 _ _ hq, fewer_succ, if_neg (by rw [c]; exact Bool.false_ne_true), List.append_nil]
    · rintro σ H6 ⟨v4', rfl, e6, hq⟩
      have hne : ((fewer N (i + 1)).map fun f => (prs N ts (i + 1)).getD f 0) ≠ [] := fun z => fewer_ne hn hS (by omega) (List.map_eq_nil_iff.mp z)
      refine ⟨_, rfl, q1, _, rfl, SqL.of hq, hne, fun mn hmn => ?_⟩
      have emn := hmn.uniq (minL_is hne)
      subst emn
      refine ⟨_, rfl, _, rfl, _, N, ts, i + 1, rfl, dv.mono (e01.trans (e4.trans e6)), hw, hin, hn, fun H8 e8 => ?_⟩
      have hb8 := e8 _ _ (e6 _ _ hb)
      have hlb : ((prs N ts (i + 1) ++ List.replicate (M - 1 - i) 0).map V.int).length = M := by
        rw [List.length_map, List.length_append, prs_len, List.length_replicate]
        omega
      refine ⟨_, _, rfl, rfl, _, rfl, _, rfl, p1, _, _, i + 1, rfl, rfl, hb8, ?_, ?_⟩
      · rw [hlb]
        unfold ixN; rw [if_pos (Int.natCast_nonneg _), if_pos (by omega), Int.toNat_natCast]
      · refine ⟨_, _, _, rfl, (e4.trans (e6.trans e8)).put hp1, ?_⟩
        rw [upd_same]
        obtain ⟨m, hm⟩ : ∃ m, M - 1 - i = m + 1 := ⟨M - 1 - i - 1, by omega⟩
        have hm2 : M - 1 - (i + 1) = m := by omega
        have z := set_mid (V.int (minL ((fewer N (i + 1)).map fun f => (prs N ts (i + 1)).getD f 0) + cutZ ts (i + 1))) (V.int 0) ((List.replicate m 0).map V.int) ((prs N ts (i + 1)).map V.int)
        rw [List.length_map, prs_len] at z
        rw [hm, hm2, List.map_append, List.replicate_succ]
        show some (HO.lst (((prs N ts (i + 1)).map V.int ++ V.int 0 :: (List.replicate m 0).map V.int).set (i + 1) (V.int _))) = some (HO.lst (((prs N ts (i + 1) ++ [_]) ++ List.replicate m 0).map V.int))
        rw [z, List.append_assoc, List.map_append]
        rfl
  · rintro σ H' ⟨v2, v3, v4, rfl, e, hg⟩
    rw [show M - 1 + 1 = M by omega, Nat.sub_self] at hg
    have z : prs N ts M ++ List.replicate 0 0 = prs N ts M := List.append_nil _
    rw [z] at hg
    exact ⟨_, rfl, q p1 H' (e01.free hp1) (e01.trans e) hg⟩
theorem sc_law_due : FnScope ["_law_web_here", "_law_bound", "_law_table", "_law_some", "_law_place", "_law_later"] ["_law_web_here", "_law_bound", "_law_table"] (defScope s_law_due) := ⟨rfl, rfl, rfl, by decide +kernel, rfl, by decide +kernel, by decide +kernel⟩
theorem ok_law_due (T : Txt K mg A D) {k : Nat} (G_law_two : FnOk P w K mg base (CXF P w) k A.law_two D.law_two ["_law_many"] spTwo) (G_law_cut : FnOk P w K mg base (CXF P w) k A.law_cut D.law_cut ["_law_web_here", "_law_some"] spLCut) : FnOk P w K mg base (CXF P w) (k + 1) A.law_due D.law_due ["_law_web_here", "_law_bound", "_law_table"] spLDue := by
  refine T.F_law_due.okF sc_law_due (fun vs H Q E h => ?_) (fun cdv A' outer s H vs Q E hr h => ?_)
  · obtain ⟨_, _, _, _, _, _, rfl, _⟩ := h
    rfl
  obtain ⟨v, l, N, ts, bound, ns, rfl, dv, hw, hin, hn, hl, hne, hns, q⟩ := h
  obtain ⟨a, tl, xs, rfl, ha, htl, dl⟩ := web_of dv
  have h32 : 2 ^ N ≤ 32 := show 2 ^ N ≤ 2 ^ 5 from Nat.pow_le_pow_right (by decide) hn
  have hpos := two_pos N
  have p32 : ∀ m : Nat, m ≤ 5 → (0 : Int) < ((2 ^ m : Nat) : Int) ∧ ((2 ^ m : Nat) : Int) < 1073741824 := fun m hm => by
    have z1 := two_pos m
    have z2 : 2 ^ m ≤ 2 ^ 5 := Nat.pow_le_pow_right (by decide) hm
    constructor
    · exact Int.ofNat_lt.mpr z1
    · exact Int.lt_of_le_of_lt (Int.ofNat_le.mpr z2) (by decide)
  have hln : ((ns.map V.int).length : Int) = (ns.length : Int) := by rw [List.length_map]
  refine ⟨_, (pss_cons (ps_if (PW.pt (pw_or (pt_cmpR op_ne (pe_callB call_len_seq rfl T.z_len PySem.boot_len (pa_cons (pv 2) pa_nil)) (pe_call G_law_two hr rfl T.m_law_two T.F_law_two.kp T.b_law_two .nil pass0F (pa_cons (pe_ix ix_tup (pv 0) pe_int (fun _ _ => rfl)) pa_nil)) (nomark _)) (pw_or (pt_cmpR op_ne (pe_ix ix_list (pv 2) pe_int (fun _ _ => rfl)) pe_int (nomark _)) (pw_or1 (pt_cmpR op_lt (pe_ix ix_list (pv 2) (pe_un un_neg pe_int) (fun _ _ => rfl)) (pv 1) (nomark _))))))
(pss_one (ps_ret pe_bl))
pss_nil)
(pss_cons (ps_for passesOwn_cx rfl (pi_range1 rfl T.z_range (pa_cons (pe_callB call_len_seq rfl T.z_len PySem.boot_len (pa_cons (pv 2) pa_nil)) pa_nil)) (pg_name (i := 3) sc_law_due.nd rfl (Or.inl rfl))
(pss_one (ps_for passesOwn_cx rfl (pi_range1 rfl T.z_range (pa_cons (pe_ix ix_tup (pv 0) pe_int (fun _ _ => rfl)) pa_nil)) (pg_name (i := 4) sc_law_due.nd rfl (Or.inl rfl))
(pss_cons (ps_set (i := 5) sc_law_due.nd rfl (Or.inl rfl) (pe_op op_add (pv 3) (pe_call G_law_two hr rfl T.m_law_two T.F_law_two.kp T.b_law_two .nil pass0F (pa_cons (pv 4) pa_nil))))
(pss_one (ps_if (PW.pt (pw_and (pt_cmpR op_eq (pe_op op_mod (pe_op op_fdiv (pv 3) (pe_call G_law_two hr rfl T.m_law_two T.F_law_two.kp T.b_law_two .nil pass0F (pa_cons (pv 4) pa_nil))) pe_int) pe_int (nomark _)) (pw_and1 (pt_cmpR op_gt (pe_ix ix_list (pv 2) (pv 5) (fun _ _ => rfl)) (pe_op op_add (pe_ix ix_list (pv 2) (pv 3) (fun _ _ => rfl)) (pe_call G_law_cut hr rfl T.m_law_cut T.F_law_cut.kp T.b_law_cut .nil pass0F (pa_cons (pv 0) (pa_cons (pv 5) pa_nil)))) (nomark _)))))
(pss_one (ps_ret pe_bl))
pss_nil))))))
(pss_one (ps_ret pe_bl)))), ?_⟩
  refine ⟨_, rfl, _, _, rfl, .inl (SqL.of hl), _, rfl, _, _, _, _, rfl, rfl, SqT.of ha, rfl, N, rfl, hn, fun H1 e1 => ⟨rfl, _, rfl, ?_⟩⟩
  dsimp only
  rw [hln]
  by_cases c1 : ¬ ns.length = 2 ^ N
  · refine ifT (ndT (fun z => c1 (by exact_mod_cast z))) (iteT ?_)
    have z : showsB N ts bound ns = false := by
      unfold showsB
      rw [decide_eq_false c1]
      rfl
    have := q H1 e1
    rw [z] at this
    exact this
  replace c1 := Decidable.not_not.mp c1
  refine ifF (ndF (by exact_mod_cast c1)) ?_
  have hl3 := e1 _ _ hl
  have hn0' : 0 < ns.length := by omega
  refine ⟨_, rfl, l, _, _, _, rfl, rfl, SqL.of hl3, atI_at (i := 0) hn0', rfl, _, rfl, ?_⟩
  dsimp only
  by_cases c2 : ns.getD 0 0 ≠ 0
  · refine ifT (ndT c2) (iteT ?_)
    have z : showsB N ts bound ns = false := by
      unfold showsB
      rw [decide_eq_false c2, Bool.false_and, Bool.and_false]
    have := q H1 e1
    rw [z] at this
    exact this
  replace c2 := Decidable.not_not.mp c2
  refine ifF (ndF c2) ?_
  refine ⟨_, rfl, _, rfl, l, _, _, _, rfl, rfl, SqL.of hl3, atI_neg1 hne, _, rfl, _, _, rfl, rfl, _, rfl, ?_⟩
  have hlast : ns.getD (ns.length - 1) 0 = ns.getD (2 ^ N - 1) 0 := by rw [c1]
  by_cases c3 : ns.getD (2 ^ N - 1) 0 < bound
  · refine ifT (decide_eq_true (by rw [hlast]; exact c3)) ?_
    have z : showsB N ts bound ns = false := by
      unfold showsB
      rw [decide_eq_false (p := bound ≤ _) (by omega), Bool.false_and, Bool.and_false, Bool.and_false]
    have := q H1 e1
    rw [z] at this
    exact this
  refine ifF (decide_eq_false (by rw [hlast]; exact c3)) ?_
  have hend : showsB N ts bound ns = keepsTo N ts ns (2 ^ N) := by
    unfold showsB
    rw [decide_eq_true c1, decide_eq_true c2, decide_eq_true (p := bound ≤ _) (by omega)]
    rfl
  refine ⟨_, rfl, _, _, rfl, .inl (SqL.of hl3), _, rfl, (by omega), (by rw [hln]; omega), ?_⟩
  have hfn : ((ns.map V.int).length : Int).toNat = ns.length := by rw [hln, Int.toNat_natCast]
  rw [hfn]
  refine for_in ns.length (fun i σ H' => ∃ v3 v4 v5, σ = [some (.ref a), some (.int bound), some (.ref l), v3, v4, v5] ∧ Same H1 H' ∧ ∀ S p, S < i → p < N → bit S p = false → ns.getD (S + 2 ^ p) 0 ≤ ns.getD S 0 + cutZ ts (S + 2 ^ p))
    ⟨none, none, none, rfl, Same.refl _, fun S p h => absurd h (Nat.not_lt_zero _)⟩ (fun i σ H' hi _ => hi) (fun σ H' _ => Nat.le_refl _) ?_ ?_
  · rintro i x σ H4 H5 hi ⟨v3, v4, v5, rfl, e4, hk⟩ ⟨rfl, rfl⟩
    have ei : (0 : Int) + (i : Nat) = ((i : Nat) : Int) := by omega
    rw [ei]
    refine ⟨_, rfl, _, _, _, _, rfl, rfl, SqT.of (e4 _ _ (e1 _ _ ha)), rfl, (N : Int), rfl, by omega, by omega, ?_⟩
    rw [Int.toNat_natCast]
    refine for_in N (fun j σ H' => ∃ v4 v5, σ = [some (.ref a), some (.int bound), some (.ref l), some (.int (i : Int)), v4, v5] ∧ Same H5 H' ∧ ∀ p, p < j → bit i p = false → ns.getD (i + 2 ^ p) 0 ≤ ns.getD i 0 + cutZ ts (i + 2 ^ p))
      ⟨_, _, rfl, Same.refl _, fun p h => absurd h (Nat.not_lt_zero _)⟩ (fun i σ H' hi _ => hi) (fun σ H' _ => Nat.le_refl _) ?_ ?_
    · rintro j x σ H6 H7 hj ⟨v4', v5', rfl, e6, hk6⟩ ⟨rfl, rfl⟩
      have ej : (0 : Int) + (j : Nat) = ((j : Nat) : Int) := by omega
      rw [ej]
      refine ⟨_, rfl, _, rfl, j, rfl, by omega, fun H8 e8 => ⟨_, _, rfl, rfl, ?_⟩⟩
      have hadd : (i : Int) + ((2 ^ j : Nat) : Int) = ((i + 2 ^ j : Nat) : Int) := by rw [Int.natCast_add]
      dsimp only
      rw [hadd]
      refine ⟨_, rfl, _, rfl, j, rfl, by omega, fun H9 e9 => ⟨_, _, rfl, rfl, p32 j (by omega), _, _, rfl, rfl, (by show (0 : Int) < 2; decide), rfl, _, rfl, ?_⟩⟩
      have hbt : decide (V.int ((i : Int) / ((2 ^ j : Nat) : Int) % 2) = V.int 0) = !bit i j := by
        rw [bit_div]
        exact bit_nil
      have e69 := e8.trans e9
      have step : ∀ p, p < j + 1 → p ≠ j → bit i p = false → ns.getD (i + 2 ^ p) 0 ≤ ns.getD i 0 + cutZ ts (i + 2 ^ p) := fun p hp hpj hb => hk6 p (by omega) hb
      refine iteOf hbt (fun c => ?_) (fun c => iteF ⟨_, _, rfl, e6.trans e69, fun p hp hb => ?_⟩)
      · have c' : bit i j = false := by cases z : bit i j with
          | false => rfl
          | true => rw [z] at c; cases c
        have hi2 : i < 2 ^ N := by omega
        have hlt := bits_lt N (by omega) i hi2 j hj c'
        have hl9 := e69 _ _ (e6 _ _ (e4 _ _ hl3))
        refine ⟨_, rfl, _, rfl, l, _, _, _, rfl, rfl, SqL.of hl9, atI_at (i := i + 2 ^ j) (by omega), _, rfl, _, rfl, l, _, _, _, rfl, rfl, SqL.of hl9, atI_at (i := i) (by omega), _, rfl, _, rfl, _, N, ts, i + 2 ^ j, rfl, dv.mono (e1.trans (e4.trans (e6.trans e69))), hw, hin, hn, fun H10 e10 => ⟨_, _, rfl, rfl, _, _, rfl, rfl, _, rfl, ?_⟩⟩
        have e1A := e1.trans (e4.trans (e6.trans (e69.trans e10)))
        by_cases c4 : ns.getD i 0 + cutZ ts (i + 2 ^ j) < ns.getD (i + 2 ^ j) 0
        · refine ifT (decide_eq_true c4) ?_
          have z : showsB N ts bound ns = false := by
            rw [hend]
            cases hz : keepsTo N ts ns (2 ^ N) with
            | false => rfl
            | true =>
              have := (keeps_iff hn).mp hz i j hi2 hj c'
              omega
          have := q H10 e1A
          rw [z] at this
          exact this
        · refine ifF (decide_eq_false c4) ⟨_, _, rfl, e6.trans (e69.trans e10), fun p hp hb => ?_⟩
          by_cases hpj : p = j
          · subst hpj
            omega
          · exact step p hp hpj hb
      · by_cases hpj : p = j
        · subst hpj
          rw [hb] at c
          cases c
        · exact step p hp hpj hb
    · rintro σ H6 ⟨v4', v5', rfl, e6, hk6⟩
      refine ⟨_, _, _, rfl, e4.trans e6, fun S p hS hp hb => ?_⟩
      by_cases hSi : S = i
      · subst hSi
        exact hk6 p hp hb
      · exact hk S p (by omega) hp hb
  · rintro σ H' ⟨v3, v4, v5, rfl, e, hk⟩
    have z : showsB N ts bound ns = true := by
      rw [hend]
      exact (keeps_iff hn).mpr fun S p hS hp hb => hk S p (by omega) hp hb
    have := q H' (e1.trans e)
    rw [z] at this
    exact this
theorem bad9 : webOk 9 [] = false := by decide
theorem sc_law_refused : FnScope ["_law_way", "_law_web_here", "_law_kept", "e"] ["_law_way", "_law_web_here"] (defScope s_law_refused) := ⟨rfl, rfl, rfl, by decide +kernel, rfl, by decide +kernel, by decide +kernel⟩
theorem ok_law_refused (T : Txt K mg A D) {k : Nat} (G_prices : FnOk P w K mg base (CXF P w) k A.prices D.prices ["web"] (spPrices A.er)) (G_least_total : FnOk P w K mg base (CXF P w) k A.least_total D.least_total ["web"] (spLeastT A.er)) (G_shows_total : FnOk P w K mg base (CXF P w) k A.shows_total D.shows_total ["web", "bound", "paper"] (spShows A.er))
    (G_law_refusal : FnOk P w K mg base (CXF P w) k A.law_refusal D.law_refusal ["_law_kept"] (spRef A.er)) :
    FnOk P w K mg base (CXF P w) (k + 1) A.law_refused D.law_refused ["_law_way", "_law_web_here"] spLRefused := by
  refine T.F_law_refused.okF sc_law_refused (fun vs H Q E h => ?_) (fun cdv A' outer s H vs Q E hr h => ?_)
  · obtain ⟨_, _, rfl, _⟩ := h
    rfl
  obtain ⟨way, v, rfl, dv, q⟩ := h
  have win : WebIn 9 [] := ⟨by unfold small; decide, by decide, fun t h => absurd h List.not_mem_nil⟩
  have nb : ∀ {Z : Prop}, webOk 9 [] = true → Z := fun z => by rw [bad9] at z; cases z
  have tw : ∀ H', Same H H' → Told A.er H Q (.ref A.er.BadWeb) none H' := fun H' e => ⟨"web", _, e, rfl, .web, fun H'' e' => q H'' (e.trans e')⟩
  refine ⟨_, (pss_cons (ps_set (i := 2) sc_law_refused.nd rfl (Or.inl rfl) pe_non)
(pss_cons (ps_try own_cx rfl rfl T.m_LayError T.x_LayError rfl sc_law_refused.nd (i := 3) rfl rfl (fun xe pn E PX => (pss_one (ps_if (pt_cmpR op_eq (pv 0) pe_int (nomark _))
(pss_one (ps_expr (pe_call G_prices hr rfl T.m_prices T.F_prices.kp T.b_prices .nil PX (pa_cons (pv 1) pa_nil))))
(pss_one (ps_if (pt_cmpR op_eq (pv 0) pe_int (nomark _))
(pss_one (ps_expr (pe_call G_least_total hr rfl T.m_least_total T.F_least_total.kp T.b_least_total .nil PX (pa_cons (pv 1) pa_nil))))
(pss_one (ps_expr (pe_call G_shows_total hr rfl T.m_shows_total T.F_shows_total.kp T.b_shows_total .nil PX (pa_cons (pv 1) (pa_cons pe_int (pa_cons (pe_lst (pa_cons pe_int pa_nil)) pa_nil))))))))))) (fun v => (pss_one (ps_set (i := 2) sc_law_refused.nd rfl (Or.inl rfl) (pv 3)))))
(pss_one (ps_ret (pe_call G_law_refusal hr rfl T.m_law_refusal T.F_law_refusal.kp T.b_law_refusal .nil pass0F (pa_cons (pv 2) pa_nil)))))), ?_⟩
  refine ⟨Told A.er H Q, ?_, ?_⟩
  · refine ⟨_, rfl, rfl, _, rfl, ?_⟩
    by_cases c0 : way = 0
    · exact iteDT (congrArg V.int c0) ⟨_, rfl, v, 9, [], rfl, dv, win, nb, nb, fun _ H1 e1 => tw H1 e1⟩
    refine iteDF (fun z => c0 (V.int.inj z)) ⟨_, rfl, rfl, _, rfl, ?_⟩
    by_cases c1 : way = 1
    · exact iteDT (congrArg V.int c1) ⟨_, rfl, v, 9, [], rfl, dv, win, nb, nb, fun _ H1 e1 => tw H1 e1⟩
    refine iteDF (fun z => c1 (V.int.inj z)) ⟨_, rfl, (by show 1 ≤ sizeLine; decide), fun p hp => ?_⟩
    obtain ⟨s1, n1⟩ := new_pair (o := .lst [V.int 0]) hp
    exact ⟨v, p, 9, [], 0, [0], rfl, dv.mono s1, win, nb, n1, by decide, nb, fun _ H1 e1 => tw H1 (s1.trans e1)⟩
  · rintro C m H1 ⟨y, C', e1, hC, hw, q⟩
    cases hC
    obtain ⟨f1, f2, _, _⟩ := ref_facts T hw
    refine ⟨⟨_, _, f1⟩, f2, fun a H2 e2 ha => ?_⟩
    exact ⟨_, rfl, _, rfl, _, rfl, .inr ⟨a, C, y, rfl, ha, hw, fun H' e' => q H' (e2.trans e')⟩⟩
def spLaw (K : PySem.W.Frag) : Sp := fun vs H Q _ => ∃ (a : Addr) (ns : List Int), vs = [.ref a] ∧ SqL K H a (ns.map .int) ∧ ns.length ≤ 63 ∧ ∀ H', Q (.bl true) H'
theorem pick4 {p1 p2 p3 p4 : V} {i : Int} {Z : V → Prop} (h0 : 0 ≤ i) (h7 : i < 4) (z1 : Z p1) (z2 : Z p2) (z3 : Z p3) (z4 : Z p4) : ∃ v, atI [p1, p2, p3, p4] i = some v ∧ Z v := by
  have : i = 0 ∨ i = 1 ∨ i = 2 ∨ i = 3 := by omega
  rcases this with rfl | rfl | rfl | rfl
  · exact ⟨p1, rfl, z1⟩
  · exact ⟨p2, rfl, z2⟩
  · exact ⟨p3, rfl, z3⟩
  · exact ⟨p4, rfl, z4⟩
theorem pick2 {p1 p2 : V} {i : Int} {Z : V → Prop} (h0 : 0 ≤ i) (h7 : i < 2) (z1 : Z p1) (z2 : Z p2) : ∃ v, atI [p1, p2] i = some v ∧ Z v := by
  have : i = 0 ∨ i = 1 := by omega
  rcases this with rfl | rfl
  · exact ⟨p1, rfl, z1⟩
  · exact ⟨p2, rfl, z2⟩
theorem pick5 {p1 p2 p3 p4 p5 : V} {i : Int} {Z : V → Prop} (h0 : 0 ≤ i) (h7 : i < 5) (z1 : Z p1) (z2 : Z p2) (z3 : Z p3) (z4 : Z p4) (z5 : Z p5) : ∃ v, atI [p1, p2, p3, p4, p5] i = some v ∧ Z v := by
  have : i = 0 ∨ i = 1 ∨ i = 2 ∨ i = 3 ∨ i = 4 := by omega
  rcases this with rfl | rfl | rfl | rfl | rfl
  · exact ⟨p1, rfl, z1⟩
  · exact ⟨p2, rfl, z2⟩
  · exact ⟨p3, rfl, z3⟩
  · exact ⟨p4, rfl, z4⟩
  · exact ⟨p5, rfl, z5⟩
theorem cutV_ints (tb : List Int) (lo hi : Option Int) : ∃ rb : List Int, cutV (tb.map V.int) lo hi = rb.map V.int ∧ rb.length ≤ tb.length := by
  have h : ∃ rb : List Int, cutV (tb.map V.int) lo hi = rb.map V.int := by
    unfold cutV
    rw [← List.map_drop, ← List.map_take]
    exact ⟨_, rfl⟩
  obtain ⟨rb, e⟩ := h
  refine ⟨rb, e, ?_⟩
  have := cutV_length (tb.map V.int) lo hi
  rw [e, List.length_map, List.length_map] at this
  exact this
theorem lay_web3 : PyData.canLay0 (.list [.str "web", .str "web", .str "web"]) = true := by decide +kernel
theorem shown_most {N : Nat} (hn : N ≤ 5) {os : List Int} (ho : ordOk N os = true) {ts : List (List Int)} (ht : ∀ t ∈ ts, tieOk N t = true) {bound : Int} {tb : List Int} (h : showsB N ts bound tb = true) : bound ≤ totF N os ts := by
  unfold showsB at h
  rw [Bool.and_eq_true, Bool.and_eq_true, Bool.and_eq_true] at h
  obtain ⟨_, h2, h3, h4⟩ := h
  have h2 := of_decide_eq_true h2
  have h3 := of_decide_eq_true h3
  have := tot_most hn ho ht (T := fun S => tb.getD S 0) (by show tb.getD 0 0 ≤ 0; omega) fun S p hS hp hb => (keeps_iff hn).mp h4 S p hS hp hb
  exact Int.le_trans h3 this
theorem sc_law : FnScope ["_law_script", "_law_web_here", "_law_order_here", "_law_due_here", "_law_table", "_law_k", "_law_number", "_law_at", "_law_bound", "_law_found"] ["_law_script"] (defScope s_law) := ⟨rfl, rfl, rfl, by decide +kernel, rfl, by decide +kernel, by decide +kernel⟩
theorem nd_law_1 : List.Nodup (["_law_web_here", "_law_order_here"] : List Str) := by decide +kernel
theorem nd_law_2 : List.Nodup (["_law_way"] : List Str) := by decide +kernel
theorem ok_law (T : Txt K mg A D) {k : Nat} (G_law_mix : FnOk P w K mg base (CXF P w) k A.law_mix D.law_mix ["_law_script", "_law_k"] (spMix K)) (G_law_web : FnOk P w K mg base (CXF P w) k A.law_web D.law_web ["_law_script", "_law_k", "_law_places"] (spLWeb K)) (G_law_order : FnOk P w K mg base (CXF P w) k A.law_order D.law_order ["_law_script", "_law_k", "_law_many"] (spLOrd K))
    (G_law_measured : FnOk P w K mg base (CXF P w) k A.law_measured D.law_measured ["_law_web_here", "_law_kind", "_law_order_here"] spLMeas) (G_law_all : FnOk P w K mg base (CXF P w) k A.law_all D.law_all ["_law_many"] spLAll) (G_law_whole : FnOk P w K mg base (CXF P w) k A.law_whole D.law_whole ["_law_found"] spWhole)
    (G_law_prices : FnOk P w K mg base (CXF P w) k A.law_prices D.law_prices ["_law_web_here"] spLPrices) (G_law_due : FnOk P w K mg base (CXF P w) k A.law_due D.law_due ["_law_web_here", "_law_bound", "_law_table"] spLDue) (G_law_refused : FnOk P w K mg base (CXF P w) k A.law_refused D.law_refused ["_law_way", "_law_web_here"] spLRefused)
    (G_prices : FnOk P w K mg base (CXF P w) k A.prices D.prices ["web"] (spPrices A.er)) (G_least_total : FnOk P w K mg base (CXF P w) k A.least_total D.least_total ["web"] (spLeastT A.er)) (G_shows_total : FnOk P w K mg base (CXF P w) k A.shows_total D.shows_total ["web", "bound", "paper"] (spShows A.er)) :
    FnOk P w K mg base (CXF P w) (k + 1) A.law D.law ["_law_script"] (spLaw K) := by
  refine T.F_law.okF sc_law (fun vs H Q E h => ?_) (fun cdv A' outer s H vs Q E hr h => ?_)
  · obtain ⟨_, _, rfl, _⟩ := h
    rfl
  obtain ⟨a, ns, rfl, hS, h63, q⟩ := h
  refine ⟨_, (pss_cons (ps_set (i := 1) sc_law.nd rfl (Or.inr rfl) (pe_call G_law_web hr rfl T.m_law_web T.F_law_web.kp T.b_law_web .nil pass0F (pa_cons (pv 0) (pa_cons pe_int (pa_cons pe_int pa_nil)))))
(pss_cons (ps_set (i := 3) sc_law.nd rfl (Or.inl rfl) (pe_callB (call_minL rfl) rfl T.z_min bt_min (pa_cons (pe_lc rfl (cn_of (N := ["_law_web_here", "_law_order_here"]) (js := [some 1, none]) rfl rfl (by decide +kernel) (by decide +kernel) rfl (List.forall_mem_cons.mpr ⟨rfl, fun _ h => nomatch h⟩) (List.forall_mem_cons.mpr ⟨(fun h => nomatch h), (List.forall_mem_cons.mpr ⟨(fun h => nomatch h), (List.forall_mem_cons.mpr ⟨(fun h => nomatch h), (List.forall_mem_cons.mpr ⟨(fun _ => rfl), fun _ h => nomatch h⟩)⟩)⟩)⟩) (List.forall_mem_cons.mpr ⟨(fun j h => (by cases h; exact ⟨rfl, rfl, rfl⟩)), (List.forall_mem_cons.mpr ⟨(fun j h => nomatch h), fun _ h => nomatch h⟩)⟩) rfl) (pi_list (pe_call G_law_all hr rfl T.m_law_all T.F_law_all.kp T.b_law_all .nil pass0F (pa_cons (pe_ix ix_tup (pv 1) pe_int (fun _ _ => rfl)) pa_nil))) (fun _ _ _ _ => (pg_name (i := 1) nd_law_1 rfl (Or.inl rfl) (hf := Or.inr rfl))) (fun _ _ _ _ => pts_nil) (fun _ _ _ _ => (pe_call G_law_measured hr rfl T.m_law_measured T.F_law_measured.kp T.b_law_measured .nil pass0F (pa_cons (pv 0) (pa_cons pe_str (pa_cons (pv 1) pa_nil)))))) pa_nil)))
(pss_cons (ps_set (i := 4) sc_law.nd rfl (Or.inl rfl) (pe_call G_prices hr rfl T.m_prices T.F_prices.kp T.b_prices .nil passes_cx (pa_cons (pv 1) pa_nil)))
(pss_cons (ps_if (PW.pt (pw_or (pt_cmpR (op_neD hr.units) (pv 4) (pe_call G_law_prices hr rfl T.m_law_prices T.F_law_prices.kp T.b_law_prices .nil pass0F (pa_cons (pv 1) pa_nil)) (nomark _)) (pw_or (pt_cmpR op_ne (pe_call G_least_total hr rfl T.m_least_total T.F_least_total.kp T.b_least_total .nil passes_cx (pa_cons (pv 1) pa_nil)) (pv 3) (nomark _)) (pw_or1 (pt_not (pt_val (pe_call G_law_whole hr rfl T.m_law_whole T.F_law_whole.kp T.b_law_whole .nil pass0F (pa_cons (pe_call G_least_total hr rfl T.m_least_total T.F_least_total.kp T.b_least_total .nil passes_cx (pa_cons (pv 1) pa_nil)) pa_nil))))))))
(pss_one (ps_ret pe_bl))
pss_nil)
(pss_cons (ps_for passesOwn_cx rfl (pi_range1 rfl T.z_range (pa_cons (pe_op op_mod (pe_call G_law_mix hr rfl T.m_law_mix T.F_law_mix.kp T.b_law_mix .nil pass0F (pa_cons (pv 0) (pa_cons pe_int pa_nil))) pe_int) pa_nil)) (pg_name (i := 5) sc_law.nd rfl (Or.inl rfl))
(pss_cons (ps_set (i := 6) sc_law.nd rfl (Or.inl rfl) (pe_call G_law_mix hr rfl T.m_law_mix T.F_law_mix.kp T.b_law_mix .nil pass0F (pa_cons (pv 0) (pa_cons (pe_op op_add pe_int (pv 5)) pa_nil))))
(pss_cons (ps_set (i := 7) sc_law.nd rfl (Or.inl rfl) (pe_op op_mod (pe_op op_fdiv (pv 6) pe_int) (pe_callB call_len_seq rfl T.z_len PySem.boot_len (pa_cons (pv 4) pa_nil))))
(pss_one (ps_if (pt_cmpR op_lt (pe_op op_mod (pv 6) pe_int) pe_int (nomark _))
(pss_one (ps_set (i := 4) sc_law.nd rfl (Or.inl rfl) (pe_op op_cat (pe_op op_cat (pe_slice sl_list (pv 4) po_none (po_some (pv 7))) (pe_lst (pa_cons (pe_op op_add (pe_ix ix_list (pv 4) (pv 7) (fun _ _ => rfl)) (pe_ix ix_list (pe_lst (pa_cons pe_int (pa_cons (pe_un un_neg pe_int) (pa_cons pe_int (pa_cons (pe_un un_neg pe_int) pa_nil))))) (pe_op op_mod (pe_op op_fdiv (pv 6) pe_int) pe_int) (fun _ _ => rfl))) pa_nil))) (pe_slice sl_list (pv 4) (po_some (pe_op op_add (pv 7) pe_int)) po_none))))
(pss_one (ps_set (i := 4) sc_law.nd rfl (Or.inl rfl) (pe_orL (pe_ix ix_list (pe_lst (pa_cons (pe_op op_cat (pv 4) (pe_lst (pa_cons pe_int pa_nil))) (pa_cons (pe_slice sl_list (pv 4) po_none (po_some (pe_un un_neg pe_int))) pa_nil))) (pe_op op_mod (pv 6) pe_int) (fun _ _ => rfl)) (pe_one (pe_lst (pa_cons pe_int pa_nil)))))))))))
(pss_cons (ps_set (i := 8) sc_law.nd rfl (Or.inl rfl) (pe_op op_add (pv 3) (pe_ix ix_list (pe_lst (pa_cons pe_int (pa_cons pe_int (pa_cons pe_int (pa_cons (pe_un un_neg pe_int) (pa_cons (pe_un un_neg pe_int) pa_nil)))))) (pe_op op_mod (pe_call G_law_mix hr rfl T.m_law_mix T.F_law_mix.kp T.b_law_mix .nil pass0F (pa_cons (pv 0) (pa_cons pe_int pa_nil))) pe_int) (fun _ _ => rfl))))
(pss_cons (ps_set (i := 9) sc_law.nd rfl (Or.inl rfl) (pe_call G_shows_total hr rfl T.m_shows_total T.F_shows_total.kp T.b_shows_total .nil passes_cx (pa_cons (pv 1) (pa_cons (pv 8) (pa_cons (pe_callTy call_list_of rfl T.z_list bt_list (pa_cons (pv 4) pa_nil)) pa_nil)))))
(pss_cons (ps_if (PW.pt (pw_or (pt_not (pt_val (pe_callB call_isinst rfl T.z_isinstance bt_isinstance (pa_cons (pv 9) (pa_cons (pe_bltn (v := .ty "bool") rfl T.z_bool bt_bool rfl) pa_nil))))) (pw_or1 (pt_cmpR op_ne (pv 9) (pe_call G_law_due hr rfl T.m_law_due T.F_law_due.kp T.b_law_due .nil pass0F (pa_cons (pv 1) (pa_cons (pv 8) (pa_cons (pv 4) pa_nil)))) (nomark _)))))
(pss_one (ps_ret pe_bl))
pss_nil)
(pss_cons (ps_for passesOwn_cx rfl (pi_range1 rfl T.z_range (pa_cons pe_int pa_nil)) (pg_name (i := 5) sc_law.nd rfl (Or.inl rfl))
(pss_cons (ps_set (i := 2) sc_law.nd rfl (Or.inl rfl) (pe_call G_law_order hr rfl T.m_law_order T.F_law_order.kp T.b_law_order .nil pass0F (pa_cons (pv 0) (pa_cons (pe_op op_add pe_int (pe_op op_mul pe_int (pv 5))) (pa_cons (pe_ix ix_tup (pv 1) pe_int (fun _ _ => rfl)) pa_nil)))))
(pss_one (ps_if (PW.pt (pw_and (pt_val (pv 9)) (pw_and1 (pt_cmpR op_lt (pe_call G_law_measured hr rfl T.m_law_measured T.F_law_measured.kp T.b_law_measured .nil pass0F (pa_cons (pv 1) (pa_cons pe_str (pa_cons (pv 2) pa_nil)))) (pv 8) (nomark _)))))
(pss_one (ps_ret pe_bl))
pss_nil))))
(pss_one (ps_ret (pe_cmpR (op_eqD hr.units) (pe_lc rfl (cn_none (N := ["_law_way"]) (js := [none]) rfl rfl (by decide +kernel) (by decide +kernel) (by decide +kernel) rfl (by decide) rfl) (pi_range1 rfl T.z_range (pa_cons pe_int pa_nil)) (fun _ _ _ _ => (pg_name (i := 0) nd_law_2 rfl (Or.inl rfl) (hf := Or.inr rfl))) (fun _ _ _ _ => pts_nil) (fun _ _ _ _ => (pe_call G_law_refused hr rfl T.m_law_refused T.F_law_refused.kp T.b_law_refused .nil pass0F (pa_cons (pv 0) (pa_cons (pe_tup (pa_cons pe_int (pa_cons (pe_lst pa_nil) pa_nil))) pa_nil))))) (pe_op op_rep (pe_lst (pa_cons pe_str pa_nil)) pe_int) (nomark _))))))))))))), ?_⟩
  -- the web
  refine ⟨_, rfl, a, ns, 0, 5, rfl, hS, by decide, by decide, fun wv H1 n ts e1 dw hw win hn5 hl64 => ?_⟩
  obtain ⟨wa, tl, xs, rfl, hwa, htl, dl⟩ := web_of dw
  obtain ⟨hn0, _, htt⟩ := webOk_of hw
  obtain ⟨N, rfl⟩ : ∃ N : Nat, n = N := ⟨n.toNat, by omega⟩
  have hN5 : N ≤ 5 := by omega
  have htk : ∀ t ∈ ts, tieOk N t = true := by
    unfold webOk at hw
    rw [Bool.and_eq_true] at hw
    exact tiesOk_all hw.2
  have nw : ∀ {Z : Prop}, webOk (N : Int) ts = false → Z := fun z => by rw [hw] at z; cases z
  have h32 : 2 ^ N ≤ 32 := show 2 ^ N ≤ 2 ^ 5 from Nat.pow_le_pow_right (by decide) hN5
  have hpos := two_pos N
  -- the least total of all orders
  refine ⟨_, rfl, _, _, _, _, rfl, rfl, SqT.of hwa, rfl, N, rfl, hN5, fun av H2 e2 dav => ?_⟩
  obtain ⟨al, axs, rfl, hal, dax⟩ := dav.list_of
  have haxl : axs.length = (allTo N N).length := by rw [← dax.length, List.length_map]
  have hall := all_len hN5 N
  have h5 : 5 ^ N ≤ 3125 := show 5 ^ N ≤ 5 ^ 5 from Nat.pow_le_pow_right (by decide) hN5
  refine ⟨al, rfl, ⟨_, SqL.of hal⟩, ?_⟩
  refine lc_in (fun σ => ∃ x, σ = [some (.ref wa), x]) axs.length (fun i => .int (totF N ((allTo N N).getD i []) ts)) ⟨none, rfl⟩ ?_ ?_ (by rw [sizeLine_eq]; omega) ?_ ?_
  · intro i H3 hi e3
    exact ⟨axs, axs[i], SqL.of (e3 _ _ hal), List.getElem?_eq_getElem hi⟩
  · intro H3 e3
    exact ⟨axs, SqL.of (e3 _ _ hal), Nat.le_refl _⟩
  · rintro Dd i x σ2 H3 H4 Nx hi e3 hD ⟨x1, rfl⟩ ⟨rfl, hx⟩ fin
    have hx2 := hx _ (SqL.of (e3 _ _ hal))
    obtain ⟨o, ho⟩ : ∃ o, (allTo N N)[i]? = some o := ⟨_, List.getElem?_eq_getElem (by omega)⟩
    obtain ⟨y, hy, dy⟩ := (dax.mono e3).get (d := ordD o) (by rw [List.getElem?_map, ho]; rfl)
    rw [hx2] at hy
    cases hy
    obtain ⟨ol, rfl, hol⟩ := ord_of dy
    have hgd : (allTo N N).getD i [] = o := by rw [List.getD_eq_getElem?_getD, ho]; rfl
    refine ⟨_, rfl, _, rfl, .ref wa, "total", ol, N, ts, o, rfl, dw.mono (e2.trans e3), hol, hw, win, hl64, (allTo_ord o).mp (List.mem_of_getElem? ho), fun z => absurd z (by decide), fun z => absurd z (by decide), fun _ _ H' e => fin _ _ _ ⟨_, rfl⟩ e ?_⟩
    rw [hgd]
    exact .int
  intro D1 ys1 H3 hD1 e3 hy1 dy1
  have z1 : (List.range axs.length).map (fun i => PyData.int (totF N ((allTo N N).getD i []) ts)) = ((allTo N N).map fun os => totF N os ts).map .int := by
    rw [haxl, map_range_get (fun os => PyData.int (totF N os ts)) [] (allTo N N), List.map_map]
    rfl
  rw [z1] at dy1
  rw [dy1.ints_of] at hy1
  have hne1 : ((allTo N N).map fun os => totF N os ts) ≠ [] := fun z => by
    obtain ⟨os, ho, _⟩ := price_some hN5 htk
    have := (allTo_ord os).mpr ho
    rw [List.map_eq_nil_iff.mp z] at this
    cases this
  refine ⟨D1, _, rfl, SqL.of hy1, hne1, fun due hdue => ?_⟩
  have edue := price_least hN5 htk allTo_ord hdue
  subst edue
  have e13 := e2.trans e3
  have eH3 := e1.trans e13
  -- prices
  refine ⟨_, rfl, .ref wa, N, ts, rfl, dw.mono e13, win, fun _ => hn5, fun _ pl H4 hpl e4 hpr => ?_, nw⟩
  have hprs : prs ((N : Int)).toNat ts (2 ^ ((N : Int)).toNat) = prs N ts (2 ^ N) := by rw [Int.toNat_natCast]
  rw [hprs] at hpr
  have e14 := e13.trans e4
  refine ⟨_, rfl, _, rfl, .ref wa, N, ts, rfl, dw.mono e14, hw, win, hN5, fun pl2 H5 hpl2 e5 hpr2 => ?_⟩
  refine ⟨.list ((prs N ts (2 ^ N)).map .int), .list ((prs N ts (2 ^ N)).map .int), (Dat.ints (e5 _ _ hpr)).rep, (Dat.ints hpr2).rep, lay_ints _, lay_ints _, (by show min (PyData.depthAll ((prs N ts (2 ^ N)).map .int) + 1) _ ≤ 60; rw [depth_ints]; omega), _, rfl, ite_ne_same (lay_ints _) ?_⟩
  have e15 := e14.trans e5
  refine ⟨_, rfl, .ref wa, N, ts, rfl, dw.mono e15, win, fun _ => hn5, fun _ H6 e6 => ⟨_, rfl, rfl, _, rfl, iteNS rfl ?_⟩, nw⟩
  have e16 := e15.trans e6
  refine ⟨_, rfl, .ref wa, N, ts, rfl, dw.mono e16, win, fun _ => hn5, fun _ H7 e7 => ⟨_, rfl, .inl ⟨_, rfl, _, rfl, iteF ?_⟩⟩, nw⟩
  have e17 := e16.trans e7
  have eH7 := e1.trans e17
  have hpr7 := e7 _ _ (e6 _ _ (e5 _ _ hpr))
  -- the table is changed
  have m90 := Int.emod_nonneg (mixI ns 90) (show (3 : Int) ≠ 0 by decide)
  have m90' := Int.emod_lt_of_pos (mixI ns 90) (show (0 : Int) < 3 by decide)
  refine ⟨_, rfl, a, ns, 90, rfl, eH7.seq hS, _, _, rfl, rfl, (by show (0 : Int) < 3; decide), _, rfl, by omega, by omega, ?_⟩
  refine for_in (mixI ns 90 % 3).toNat (fun i σ H' => ∃ v2 tl tb v5 v6 v7, σ = [some (.ref a), some (.ref wa), v2, some (.int (price N ts (2 ^ N - 1))), some (.ref tl), v5, v6, v7, none, none] ∧ Same H7 H' ∧ H' tl = some (.lst (tb.map .int)) ∧ tb ≠ [] ∧ tb.length ≤ 32 + i)
    ⟨_, pl, prs N ts (2 ^ N), _, _, _, rfl, Same.refl _, hpr7, (fun z => by have := prs_len N ts (2 ^ N); rw [z] at this; simp at this; omega), by rw [prs_len]; omega⟩ (fun i σ H' hi _ => hi) (fun σ H' _ => Nat.le_refl _) ?_ ?_
  · rintro i x σ H8 H9 hi ⟨v2, tl, tb, v5, v6, v7, rfl, e8, htb, hne, hlen⟩ ⟨rfl, rfl⟩
    have hl0 : 0 < tb.length := List.length_pos_iff.mpr hne
    have hlm : (tb.map V.int).length = tb.length := List.length_map _
    refine ⟨_, rfl, _, rfl, _, _, rfl, rfl, a, ns, _, rfl, e8.seq (eH7.seq hS), ?_⟩
    generalize hnu : mixI ns (91 + (0 + (i : Nat))) = nu
    have nu0 : 0 ≤ nu := by rw [← hnu]; exact mixI_nonneg _ _
    refine ⟨_, rfl, _, _, rfl, rfl, (by show (0 : Int) < 8 ∧ (8 : Int) < 1073741824; decide), _, rfl, _, _, rfl, .inl (SqL.of htb), _, _, rfl, rfl, (by show (0 : Int) < _; rw [hlm]; omega), ?_⟩
    obtain ⟨p, hp, hpl⟩ : ∃ p : Nat, nu / 8 % ((tb.map V.int).length : Int) = (p : Int) ∧ p < tb.length := by
      have z1 := Int.emod_nonneg (nu / 8) (show ((tb.map V.int).length : Int) ≠ 0 by rw [hlm]; omega)
      have z2 := Int.emod_lt_of_pos (nu / 8) (show (0 : Int) < ((tb.map V.int).length : Int) by rw [hlm]; omega)
      rw [hlm] at z1 z2 ⊢
      exact ⟨(nu / 8 % (tb.length : Int)).toNat, by omega, by omega⟩
    dsimp only
    rw [hp]
    refine ⟨_, rfl, _, _, rfl, rfl, (by show (0 : Int) < 8; decide), _, _, rfl, rfl, _, rfl, ?_⟩
    refine iteOf rfl (fun _ => ?_) (fun _ => ?_)
    · obtain ⟨rb1, er1, hr1⟩ := cutV_ints tb none (some (p : Int))
      obtain ⟨rb2, er2, hr2⟩ := cutV_ints tb (some ((p : Int) + 1)) none
      refine ⟨_, rfl, _, rfl, _, rfl, tl, _, rfl, SqL.of htb, fun q1 hq1 => ?_⟩
      rw [er1]
      obtain ⟨s1, n1⟩ := new_pair (o := .lst (rb1.map V.int)) hq1
      refine ⟨_, rfl, _, rfl, tl, _, _, _, rfl, rfl, SqL.of (s1 _ _ htb), atI_at hpl, _, rfl, _, rfl, (by show 4 ≤ sizeLine; decide), fun q2 hq2 => ?_⟩
      obtain ⟨s2, n2⟩ := new_pair (o := .lst [V.int 1, V.int (-1), V.int 50, V.int (-3)]) hq2
      obtain ⟨dv, hdv, dd, rfl⟩ := pick4 (i := nu / 512 % 4) (p1 := .int 1) (p2 := .int (-1)) (p3 := .int 50) (p4 := .int (-3)) (Z := fun v => ∃ d, v = .int d) (Int.emod_nonneg _ (by decide)) (Int.emod_lt_of_pos _ (by decide)) ⟨_, rfl⟩ ⟨_, rfl⟩ ⟨_, rfl⟩ ⟨_, rfl⟩
      refine ⟨_, rfl, _, _, rfl, rfl, (by show (0 : Int) < 512 ∧ (512 : Int) < 1073741824; decide), _, _, rfl, rfl, (by show (0 : Int) < 4; decide), q2, _, _, _, rfl, rfl, SqL.of n2, hdv, _, _, rfl, rfl, (by show 1 ≤ sizeLine; decide), fun q3 hq3 => ?_⟩
      obtain ⟨s3, n3⟩ := new_pair (o := .lst [V.int (tb.getD p 0 + dd)]) hq3
      refine ⟨_, _, _, _, rfl, rfl, s3 _ _ (s2 _ _ n1), n3, (by rw [sizeLine_eq, List.length_map]; show _ + 1 ≤ _; omega), fun q4 hq4 => ?_⟩
      obtain ⟨s4, n4⟩ := new_pair (o := .lst (rb1.map V.int ++ [V.int (tb.getD p 0 + dd)])) hq4
      have s14 := s1.trans (s2.trans (s3.trans s4))
      refine ⟨_, rfl, _, rfl, _, _, rfl, rfl, _, rfl, tl, _, rfl, SqL.of (s14 _ _ htb), fun q5 hq5 => ?_⟩
      rw [er2]
      obtain ⟨s5, n5⟩ := new_pair (o := .lst (rb2.map V.int)) hq5
      refine ⟨_, _, _, _, rfl, rfl, s5 _ _ n4, n5, (by rw [sizeLine_eq, List.length_append, List.length_map, List.length_map]; show _ + 1 + _ ≤ _; omega), fun q6 hq6 => ?_⟩
      obtain ⟨s6, n6⟩ := new_pair (o := .lst ((rb1.map V.int ++ [V.int (tb.getD p 0 + dd)]) ++ rb2.map V.int)) hq6
      have c1 : rb1.length = p := by
        have z := congrArg List.length er1
        rw [cut_take, List.length_take, List.length_map, List.length_map] at z
        omega
      have c2 : rb2.length = tb.length - (p + 1) := by
        have z := congrArg List.length er2
        rw [show (p : Int) + 1 = ((p + 1 : Nat) : Int) by omega, cut_drop, List.length_drop, List.length_map, List.length_map] at z
        omega
      refine ⟨_, q6, (rb1 ++ [tb.getD p 0 + dd]) ++ rb2, _, _, _, rfl, e8.trans (s14.trans (s5.trans s6)), ?_, ?_, ?_⟩
      · rw [n6, List.map_append, List.map_append]
        rfl
      · intro z
        have := congrArg List.length z
        rw [List.length_append, List.length_append] at this
        simp at this
      · rw [List.length_append, List.length_append, c1, c2]
        show p + 1 + _ ≤ _
        omega
    · obtain ⟨rb1, er1, hr1⟩ := cutV_ints tb none (some (-1))
      refine ⟨_, rfl, (by show 1 ≤ sizeLine; decide), fun q1 hq1 => ?_⟩
      obtain ⟨s1, n1⟩ := new_pair (o := .lst [V.int 0]) hq1
      refine ⟨_, _, _, _, rfl, rfl, s1 _ _ htb, n1, (by rw [sizeLine_eq, hlm]; show _ + 1 ≤ _; omega), fun q2 hq2 => ?_⟩
      obtain ⟨s2, n2⟩ := new_pair (o := .lst (tb.map V.int ++ [V.int 0])) hq2
      refine ⟨_, rfl, _, rfl, _, rfl, tl, _, rfl, SqL.of (s2 _ _ (s1 _ _ htb)), fun q3 hq3 => ?_⟩
      rw [er1]
      obtain ⟨s3, n3⟩ := new_pair (o := .lst (rb1.map V.int)) hq3
      refine ⟨(by show 2 ≤ sizeLine; decide), fun q4 hq4 => ?_⟩
      obtain ⟨s4, n4⟩ := new_pair (o := .lst [V.ref q2, V.ref q3]) hq4
      have n2' := s4 _ _ (s3 _ _ n2)
      have n3' := s4 _ _ n3
      have s14 := s1.trans (s2.trans (s3.trans s4))
      generalize upd _ q4 (HO.lst [V.ref q2, V.ref q3]) = Hz at *
      obtain ⟨rv, hrv, rl, rb, rfl, hrl, hrb⟩ := pick2 (i := nu % 2) (p1 := .ref q2) (p2 := .ref q3) (Z := fun v => ∃ (rl : Addr) (rb : List Int), v = .ref rl ∧ Hz rl = some (.lst (rb.map V.int)) ∧ rb.length ≤ tb.length + 1) (Int.emod_nonneg _ (by decide)) (Int.emod_lt_of_pos _ (by decide))
        ⟨q2, tb ++ [0], rfl, by rw [n2', List.map_append]; rfl, by rw [List.length_append]; exact Nat.le_refl _⟩ ⟨q3, rb1, rfl, n3', by omega⟩
      refine ⟨_, rfl, _, _, rfl, rfl, (by show (0 : Int) < 2; decide), q4, _, _, _, rfl, rfl, SqL.of n4, hrv, _, .inl ⟨_, SqL.of hrl, rfl⟩, ?_⟩
      cases rb with
      | nil =>
        refine iteF ⟨(by show 1 ≤ sizeLine; decide), fun q5 hq5 => ?_⟩
        obtain ⟨s5, n5⟩ := new_pair (o := .lst [V.int 0]) hq5
        exact ⟨_, q5, [0], _, _, _, rfl, e8.trans (s14.trans s5), n5, List.cons_ne_nil _ _, by show 1 ≤ _; omega⟩
      | cons r0 rr => exact iteT ⟨_, rl, r0 :: rr, _, _, _, rfl, e8.trans s14, hrl, List.cons_ne_nil _ _, by omega⟩
  · rintro σ H8 ⟨v2, tl, tb, v5, v6, v7, rfl, e8, htb, hne, hlen⟩
    have eH8 := eH7.trans e8
    have hS8 := eH8.seq hS
    have e18 := e17.trans e8
    have hlt : tb.length ≤ 40 := by omega
    -- the bound
    refine ⟨_, rfl, _, rfl, _, rfl, (by show 5 ≤ sizeLine; decide), fun q1 hq1 => ?_⟩
    obtain ⟨s1, n1⟩ := new_pair (o := .lst [V.int 0, V.int 0, V.int 1, V.int (-1), V.int (-5)]) hq1
    obtain ⟨dv, hdv, dd, rfl⟩ := pick5 (i := mixI ns 95 % 5) (p1 := .int 0) (p2 := .int 0) (p3 := .int 1) (p4 := .int (-1)) (p5 := .int (-5)) (Z := fun v => ∃ d, v = .int d) (Int.emod_nonneg _ (by decide)) (Int.emod_lt_of_pos _ (by decide)) ⟨_, rfl⟩ ⟨_, rfl⟩ ⟨_, rfl⟩ ⟨_, rfl⟩ ⟨_, rfl⟩
    refine ⟨_, rfl, a, ns, 95, rfl, s1.seq hS8, _, _, rfl, rfl, (by show (0 : Int) < 5; decide), q1, _, _, _, rfl, rfl, SqL.of n1, hdv, _, _, rfl, rfl, ?_⟩
    dsimp only
    generalize price N ts (2 ^ N - 1) + dd = bound
    -- shown
    have htb1 := s1 _ _ htb
    refine ⟨_, rfl, _, rfl, _, rfl, tl, _, rfl, .inl (SqL.of htb1), fun q2 hq2 => ?_⟩
    obtain ⟨s2, n2⟩ := new_pair (o := .lst (tb.map V.int)) hq2
    have e1s := e18.trans (s1.trans s2)
    refine ⟨.ref wa, q2, N, ts, bound, tb, rfl, dw.mono e1s, win, fun _ => hn5, n2, by omega, fun _ H9 e9 => ?_, nw⟩
    have hsh : showsB ((N : Int)).toNat ts bound tb = showsB N ts bound tb := by rw [Int.toNat_natCast]
    rw [hsh]
    have e19 := e1s.trans e9
    have htb9 := e9 _ _ (s2 _ _ htb1)
    refine ⟨_, rfl, _, _, _, _, _, rfl, rfl, .bl _, T.k_bool_bool, _, rfl, iteF ?_⟩
    refine ⟨_, rfl, _, rfl, _, rfl, _, rfl, .ref wa, tl, N, ts, bound, tb, rfl, dw.mono e19, hw, win, hN5, htb9, hne, by omega, fun H10 e10 => ⟨rfl, _, rfl, iteNS rfl ?_⟩⟩
    have e110 := e19.trans e10
    -- the orders
    refine ⟨4, rfl, by decide, by decide, ?_⟩
    refine for_in 4 (fun i σ H' => ∃ v2 v5, σ = [some (.ref a), some (.ref wa), v2, some (.int (price N ts (2 ^ N - 1))), some (.ref tl), v5, v6, v7, some (.int bound), some (.bl (showsB N ts bound tb))] ∧ Same H10 H')
      ⟨_, _, rfl, Same.refl _⟩ (fun i σ H' hi _ => hi) (fun σ H' _ => Nat.le_refl _) ?_ ?_
    · rintro i x σ H11 H12 hi ⟨v2', v5', rfl, e11⟩ ⟨rfl, rfl⟩
      have e111 := e110.trans e11
      refine ⟨_, rfl, _, rfl, _, _, rfl, rfl, .inl ⟨by decide, by decide⟩, _, _, rfl, rfl, _, rfl, _, _, _, _, rfl, rfl, SqT.of (e111 _ _ hwa), rfl, a, ns, _, N, rfl, (e1.trans e111).seq hS, hn0, by omega, fun ol H13 os hol e13 hos ho oin => ?_⟩
      have e113 := e111.trans e13
      refine ⟨_, rfl, _, rfl, ?_⟩
      cases hsb : showsB N ts bound tb with
      | false => exact iteF (iteF ⟨_, _, rfl, e11.trans e13⟩)
      | true =>
        refine iteT ⟨_, rfl, _, rfl, .ref wa, "total", ol, N, ts, os, rfl, dw.mono e113, hos, hw, win, hl64, ho, fun z => absurd z (by decide), fun z => absurd z (by decide), fun _ _ H14 e14 => ⟨_, rfl, _, _, rfl, rfl, _, rfl, ?_⟩⟩
        have := shown_most hN5 ho htk hsb
        exact ifF (decide_eq_false (by omega)) ⟨_, _, rfl, e11.trans (e13.trans e14)⟩
    · rintro σ H11 ⟨v2', v5', rfl, e11⟩
      refine ⟨3, rfl, by decide, by decide, ?_⟩
      refine lc_in (fun σ => ∃ x, σ = [x]) 3 (fun _ => .str "web") ⟨none, rfl⟩ (fun i H3 hi e3 => hi) (fun H3 e3 => Nat.le_refl _) (by decide) ?_ ?_
      · rintro Dd i x σ2 H3 H4 Nx hi e3 hD ⟨x1, rfl⟩ ⟨rfl, rfl⟩ fin
        refine ⟨_, rfl, (by show 0 ≤ sizeLine; decide), fun r1 hr1 => ⟨(by show 2 ≤ sizeLine; decide), fun r2 hr2 => ?_⟩⟩
        obtain ⟨t1, m1⟩ := new_pair (o := .lst []) hr1
        obtain ⟨t2, m2⟩ := new_pair (o := .tup [V.int 9, V.ref r1]) hr2
        exact ⟨_, .ref r2, rfl, web_mk m2 (t2 _ _ m1) .nil, fun H' e' => fin _ _ _ ⟨_, rfl⟩ ((t1.trans t2).trans e') .str⟩
      · intro D5 ys5 H25 hD5 e25 hy5 dy5
        refine ⟨(by show 1 ≤ sizeLine; decide), fun w1 hw1 => ⟨_, _, _, rfl, rfl, upd_same, by decide, by decide, (by show 1 * 3 ≤ sizeLine; decide), fun w2 hw2 => ?_⟩⟩
        have x1 := same_new (o := .lst [V.str "web"]) hw1
        have x2 := same_new (o := .lst (List.replicate (3 : Int).toNat [V.str "web"]).flatten) hw2
        refine ⟨.list [.str "web", .str "web", .str "web"], .list [.str "web", .str "web", .str "web"], (Dat.list (x2 _ _ (x1 _ _ hy5)) (dy5.mono (mask_same.trans (x1.trans x2)))).rep, (Dat.list upd_same (.cons .str (.cons .str (.cons .str .nil)))).rep, lay_web3, lay_web3, (by decide +kernel), ?_⟩
        rw [eq_same lay_web3]
        exact q _
theorem all_ok (T : Txt K mg A D) : FnOk P w K mg base (CXF P w) 9 A.law D.law ["_law_script"] (spLaw K) := by
  have G_is_whole := ok_whole (P := P) (w := w) (base := base) (k := 0) T 
  have G_is_within := ok_within (P := P) (w := w) (base := base) (k := 1) T (G_is_whole := G_is_whole.mono (by decide))
  have G_is_tie := ok_tie (P := P) (w := w) (base := base) (k := 2) T (G_is_within := G_is_within.mono (by decide))
  have G_look_ties := ok_ties (P := P) (w := w) (base := base) (k := 3) T (G_is_tie := G_is_tie.mono (by decide))
  have G_look_web := ok_web (P := P) (w := w) (base := base) (k := 4) T (G_is_within := G_is_within.mono (by decide)) (G_look_ties := G_look_ties.mono (by decide))
  have G_set_count := ok_set_count (P := P) (w := w) (base := base) (k := 0) T 
  have G_holds := ok_holds (P := P) (w := w) (base := base) (k := 0) T 
  have G_place_fewer := ok_place_fewer (P := P) (w := w) (base := base) (k := 1) T (G_holds := G_holds.mono (by decide))
  have G_least_before := ok_least_before (P := P) (w := w) (base := base) (k := 2) T (G_place_fewer := G_place_fewer.mono (by decide))
  have G_leading_out := ok_leading_out (P := P) (w := w) (base := base) (k := 1) T (G_set_count := G_set_count.mono (by decide)) (G_holds := G_holds.mono (by decide))
  have G_prices := ok_prices (P := P) (w := w) (base := base) (k := 5) T (G_look_web := G_look_web.mono (by decide)) (G_leading_out := G_leading_out.mono (by decide)) (G_least_before := G_least_before.mono (by decide))
  have G_least_total := ok_least_total (P := P) (w := w) (base := base) (k := 6) T (G_prices := G_prices.mono (by decide))
  have G_shows_total := ok_shows_total (P := P) (w := w) (base := base) (k := 5) T (G_look_web := G_look_web.mono (by decide)) (G_leading_out := G_leading_out.mono (by decide)) (G_least_before := G_least_before.mono (by decide)) (G_is_whole := G_is_whole.mono (by decide))
  have G_law_cell := ok_law_cell (P := P) (w := w) (base := base) (k := 0) T 
  have G_law_mix := ok_law_mix (P := P) (w := w) (base := base) (k := 1) T (G_law_cell := G_law_cell.mono (by decide))
  have G_law_whole := ok_law_whole (P := P) (w := w) (base := base) (k := 0) T 
  have G_law_web := ok_law_web (P := P) (w := w) (base := base) (k := 2) T (G_law_mix := G_law_mix.mono (by decide))
  have G_law_order := ok_law_order (P := P) (w := w) (base := base) (k := 2) T (G_law_mix := G_law_mix.mono (by decide))
  have G_law_lengths := ok_law_lengths (P := P) (w := w) (base := base) (k := 0) T 
  have G_law_gaps := ok_law_gaps (P := P) (w := w) (base := base) (k := 0) T 
  have G_law_measured := ok_law_measured (P := P) (w := w) (base := base) (k := 1) T (G_law_lengths := G_law_lengths.mono (by decide)) (G_law_gaps := G_law_gaps.mono (by decide))
  have G_law_all := ok_law_all (P := P) (w := w) (base := base) (k := 0) T 
  have G_law_refusal := ok_law_refusal (P := P) (w := w) (base := base) (k := 0) T 
  have G_law_two := ok_law_two (P := P) (w := w) (base := base) (k := 0) T 
  have G_law_cut := ok_law_cut (P := P) (w := w) (base := base) (k := 1) T (G_law_two := G_law_two.mono (by decide))
  have G_law_prices := ok_law_prices (P := P) (w := w) (base := base) (k := 2) T (G_law_two := G_law_two.mono (by decide)) (G_law_cut := G_law_cut.mono (by decide))
  have G_law_due := ok_law_due (P := P) (w := w) (base := base) (k := 2) T (G_law_two := G_law_two.mono (by decide)) (G_law_cut := G_law_cut.mono (by decide))
  have G_law_refused := ok_law_refused (P := P) (w := w) (base := base) (k := 7) T (G_prices := G_prices.mono (by decide)) (G_least_total := G_least_total.mono (by decide)) (G_shows_total := G_shows_total.mono (by decide)) (G_law_refusal := G_law_refusal.mono (by decide))
  have G_law := ok_law (P := P) (w := w) (base := base) (k := 8) T (G_law_mix := G_law_mix.mono (by decide)) (G_law_web := G_law_web.mono (by decide)) (G_law_order := G_law_order.mono (by decide)) (G_law_measured := G_law_measured.mono (by decide)) (G_law_all := G_law_all.mono (by decide)) (G_law_whole := G_law_whole.mono (by decide)) (G_law_prices := G_law_prices.mono (by decide)) (G_law_due := G_law_due.mono (by decide)) (G_law_refused := G_law_refused.mono (by decide)) (G_prices := G_prices.mono (by decide)) (G_least_total := G_least_total.mono (by decide)) (G_shows_total := G_shows_total.mono (by decide))
  exact G_law
theorem walk {l : PySem.W.OpenLaw} {q : Program} {loose : List Str} {XP : (Str → Option Value) → Heap → Prop} {YP : World → Heap → Prop} {d : DefRec} {K : Params → PySem.W.Frag} (hn : l.most = some 63) (hdf : d.params.defaults = [])
    (hY : ∀ (w : World) (h : Heap), YP w h → (K w.params).In h)
    (F : ∀ (w : World) (mg : Str → Option Value) (fa : Addr) (h : Heap), (K w.params).In h → h.Ns mainGlobals mg → mg d.name = some (.ref fa) →
      ∃ fd : FuncData, (∀ (s : Shared) (u : Value), BindsTo s fd ⟨[u], []⟩ [("_law_script", u)]) ∧ ∀ base : Heap, (K w.params).In base → base.Ns mainGlobals mg → FnOk l.prog w (K w.params) mg base (CXF l.prog w) 9 fa fd ["_law_script"] (spLaw (K w.params))) :
    PySem.W.WalkO q loose XP YP l.row.toRowW d [] (fun f vs => PySem.call f vs) :=
  L2.walk_of (n := 63) (k := 9) (x := "_law_script") (CX := fun w => CXF l.prog w) (sp := fun w => spLaw (K w.params)) hn (by decide) hdf ⟨rfl, by decide, by decide, rfl⟩ hY F (fun _ _ a ns hl _ hS => ⟨a, ns, rfl, hS, hl, fun _ => rfl⟩) fun _ _ _ _ _ ⟨_, _, _, _, _, _, _, _, _, _, _, z⟩ => z
theorem given {l : PySem.W.OpenLaw} {w : World} {K : PySem.W.Frag} {mg : Str → Option Value} {fa : Addr} (hfa : mg "law" = some (.ref fa)) (h : ∃ A D, Txt K mg A D) :
    ∃ fd : FuncData, (∀ (s : Shared) (u : Value), BindsTo s fd ⟨[u], []⟩ [("_law_script", u)]) ∧ ∀ base : Heap, K.In base → base.Ns mainGlobals mg → FnOk l.prog w K mg base (CXF l.prog w) 9 fa fd ["_law_script"] (spLaw K) := by
  obtain ⟨A, D, T⟩ := h
  have e := hfa.symm.trans T.m_law
  cases e
  exact ⟨D.law, T.bl_law, fun base _ _ => all_ok T⟩
def without (ns : List Nat) (k : Nat) : List Stmt → List Stmt
  | [] => []
  | s :: r => if ns.contains k then without ns (k + 1) r else s :: without ns (k + 1) r
def view : Program := { PySem.Challenge.pw_rowlay_k20_whole_prices with main := { PySem.Challenge.pw_rowlay_k20_whole_prices.main with body := without [0, 6, 13, 21, 25] 0 PySem.Challenge.pw_rowlay_k20_whole_prices.main.body } }
theorem head {r : PySem.W.OpenRow} {q : Program} {loose : List Str} {d : DefRec} {kwd : List (Str × PySem.Expr)} {N : Nat} (H : PySem.W.Hook)
    (hl : PySem.W.LeftO r.prog q loose (fun s => PySem.W.xlAt q [] s && PySem.W.recOk r.toRowW.records s) H.obs H.val N) (hd : PySem.W.defOf q r.name = some (d, kwd))
    (ht : r.prog.theDef r.name = some (d.params, d.body, d.scope)) (hk : PySem.W.kwWritten? d.params.kwonlyargs d.params.kw_defaults = some kwd)
    (hr : (!r.writes || List.isEmpty r.records) = true) (hs : r.wellSaid = true) (hg : (PySem.W.chainsOk q && PySem.W.opensWell r.prog && (PySem.W.frees r.toRowW && r.within.isEmpty)) = true)
    (hb : r.prog.bare) (hw : r.promised) (hc : PySem.W.WalkO q loose (PySem.W.XL q []) H.says r.toRowW d kwd fun f vs => PySem.call f vs) : r.Holds :=
  PySem.W.holds_open hl H.of H.keeps (fun s e => PySem.W.xl_of s (Bool.and_eq_true_iff.mp e).1) PySem.W.XL.keeps hd ht hk (fun s e => PySem.W.recFacts_of (Bool.and_eq_true_iff.mp e).2) hr hs hg hb hw hc
end My
open PySem PySem.W PyProof.Rows
local macro_rules
  | `(tactic| o_head $H) => `(tactic| (refine My.head (q := My.view) (loose := []) (N := 4486) $H ?hl rfl rfl rfl rfl (by assumption) (by decide +kernel) ⟨rfl, rfl, rfl, rfl, rfl, by decide +kernel⟩ ?hw ?hc
                                       (case hl => exact My.left_of (by kernel_rfl) (by rfl) (fun s => by kernel_rfl) fun w os => by rw [PySem.W.Fast.te15663120176360888729]; kernel_rfl)))
set_option maxRecDepth 100000 in
set_option maxHeartbeats 0 in
theorem PySem.Challenge.cw_rowlay_k20_whole_prices_holds : PySem.Challenge.rw_rowlay_k20_whole_prices.Holds := by
  w_on; o_law; k_head; (case hw => w_witness2)
  k_fill
  refine My.walk (l := PySem.Challenge.rw_rowlay_k20_whole_prices) rfl rfl (fun w h Y => PySem.W.kIn_of Y) ?F
  case F =>
    intro w mg fa h KX G hmg
    refine My.given hmg ?_
    refine' My.txt_mk KX G ?a_set_count ?l_set_count ?c_set_count ?k_set_count ?a_holds ?l_holds ?c_holds ?k_holds ?a_place_fewer ?l_place_fewer ?c_place_fewer ?k_place_fewer ?a_least_before ?l_least_before ?c_least_before ?k_least_before ?a_leading_out ?l_leading_out ?c_leading_out ?k_leading_out ?a_is_whole ?l_is_whole ?c_is_whole ?k_is_whole ?a_is_within ?l_is_within ?c_is_within ?k_is_within ?a_is_tie ?l_is_tie ?c_is_tie ?k_is_tie ?a_look_ties ?l_look_ties ?c_look_ties ?k_look_ties ?a_look_web ?l_look_web ?c_look_web ?k_look_web ?a_prices ?l_prices ?c_prices ?k_prices ?a_least_total ?l_least_total ?c_least_total ?k_least_total ?a_shows_total ?l_shows_total ?c_shows_total ?k_shows_total ?a_law_cell ?l_law_cell ?c_law_cell ?k_law_cell ?a_law_mix ?l_law_mix ?c_law_mix ?k_law_mix ?a_law_whole ?l_law_whole ?c_law_whole ?k_law_whole ?a_law_web ?l_law_web ?c_law_web ?k_law_web ?a_law_order ?l_law_order ?c_law_order ?k_law_order ?a_law_lengths ?l_law_lengths ?c_law_lengths ?k_law_lengths ?a_law_gaps ?l_law_gaps ?c_law_gaps ?k_law_gaps ?a_law_measured ?l_law_measured ?c_law_measured ?k_law_measured ?a_law_all ?l_law_all ?c_law_all ?k_law_all ?a_law_refusal ?l_law_refusal ?c_law_refusal ?k_law_refusal ?a_law_two ?l_law_two ?c_law_two ?k_law_two ?a_law_cut ?l_law_cut ?c_law_cut ?k_law_cut ?a_law_prices ?l_law_prices ?c_law_prices ?k_law_prices ?a_law_due ?l_law_due ?c_law_due ?k_law_due ?a_law_refused ?l_law_refused ?c_law_refused ?k_law_refused ?a_law ?l_law ?c_law ?k_law ?a_LayError ?x_LayError ?a_BadWeb ?x_BadWeb ?e1_BadWeb ?e2_BadWeb ?e3_BadWeb ?e4_BadWeb ?e5_BadWeb ?e6_BadWeb ?s_BadWeb ?v_BadWeb ?a_BadOrder ?x_BadOrder ?e1_BadOrder ?e2_BadOrder ?e3_BadOrder ?e4_BadOrder ?e5_BadOrder ?e6_BadOrder ?s_BadOrder ?v_BadOrder ?a_BadSpot ?x_BadSpot ?e1_BadSpot ?e2_BadSpot ?e3_BadSpot ?e4_BadSpot ?e5_BadSpot ?e6_BadSpot ?s_BadSpot ?v_BadSpot ?a_BadKind ?x_BadKind ?e1_BadKind ?e2_BadKind ?e3_BadKind ?e4_BadKind ?e5_BadKind ?e6_BadKind ?s_BadKind ?v_BadKind ?a_BadText ?x_BadText ?e1_BadText ?e2_BadText ?e3_BadText ?e4_BadText ?e5_BadText ?e6_BadText ?s_BadText ?v_BadText ?i_BadWeb_BadWeb ?i_BadWeb_BadOrder ?i_BadWeb_BadSpot ?i_BadWeb_BadKind ?i_BadWeb_BadText ?i_BadOrder_BadWeb ?i_BadOrder_BadOrder ?i_BadOrder_BadSpot ?i_BadOrder_BadKind ?i_BadOrder_BadText ?i_BadSpot_BadWeb ?i_BadSpot_BadOrder ?i_BadSpot_BadSpot ?i_BadSpot_BadKind ?i_BadSpot_BadText ?i_BadKind_BadWeb ?i_BadKind_BadOrder ?i_BadKind_BadSpot ?i_BadKind_BadKind ?i_BadKind_BadText ?i_BadText_BadWeb ?i_BadText_BadOrder ?i_BadText_BadSpot ?i_BadText_BadKind ?i_BadText_BadText ?g_MOST_PLACES ?g_MOST_WEIGHT ?z_abs ?z_all ?z_bool ?z_int ?z_isinstance ?z_len ?z_list ?z_max ?z_min ?z_range ?z_sorted ?z_sum ?z_tuple ?z_ValueError ?k_bool_bool ?k_bool_int ?k_bool_str ?k_bool_list ?k_bool_tuple ?k_int_bool ?k_int_int ?k_int_str ?k_int_list ?k_int_tuple ?k_str_bool ?k_str_int ?k_str_str ?k_str_list ?k_str_tuple ?k_list_bool ?k_list_int ?k_list_str ?k_list_list ?k_list_tuple ?k_tuple_bool ?k_tuple_int ?k_tuple_str ?k_tuple_list ?k_tuple_tuple
    (case a_set_count => k_is)
    (case l_set_count => k_is)
    (case c_set_count => k_is)
    (case k_set_count => k_is)
    (case a_holds => k_is)
    (case l_holds => k_is)
    (case c_holds => k_is)
    (case k_holds => k_is)
    (case a_place_fewer => k_is)
    (case l_place_fewer => k_is)
    (case c_place_fewer => k_is)
    (case k_place_fewer => k_is)
    (case a_least_before => k_is)
    (case l_least_before => k_is)
    (case c_least_before => k_is)
    (case k_least_before => k_is)
    (case a_leading_out => k_is)
    (case l_leading_out => k_is)
    (case c_leading_out => k_is)
    (case k_leading_out => k_is)
    (case a_is_whole => k_is)
    (case l_is_whole => k_is)
    (case c_is_whole => k_is)
    (case k_is_whole => k_is)
    (case a_is_within => k_is)
    (case l_is_within => k_is)
    (case c_is_within => k_is)
    (case k_is_within => k_is)
    (case a_is_tie => k_is)
    (case l_is_tie => k_is)
    (case c_is_tie => k_is)
    (case k_is_tie => k_is)
    (case a_look_ties => k_is)
    (case l_look_ties => k_is)
    (case c_look_ties => k_is)
    (case k_look_ties => k_is)
    (case a_look_web => k_is)
    (case l_look_web => k_is)
    (case c_look_web => k_is)
    (case k_look_web => k_is)
    (case a_prices => k_is)
    (case l_prices => k_is)
    (case c_prices => k_is)
    (case k_prices => k_is)
    (case a_least_total => k_is)
    (case l_least_total => k_is)
    (case c_least_total => k_is)
    (case k_least_total => k_is)
    (case a_shows_total => k_is)
    (case l_shows_total => k_is)
    (case c_shows_total => k_is)
    (case k_shows_total => k_is)
    (case a_law_cell => k_is)
    (case l_law_cell => k_is)
    (case c_law_cell => k_is)
    (case k_law_cell => k_is)
    (case a_law_mix => k_is)
    (case l_law_mix => k_is)
    (case c_law_mix => k_is)
    (case k_law_mix => k_is)
    (case a_law_whole => k_is)
    (case l_law_whole => k_is)
    (case c_law_whole => k_is)
    (case k_law_whole => k_is)
    (case a_law_web => k_is)
    (case l_law_web => k_is)
    (case c_law_web => k_is)
    (case k_law_web => k_is)
    (case a_law_order => k_is)
    (case l_law_order => k_is)
    (case c_law_order => k_is)
    (case k_law_order => k_is)
    (case a_law_lengths => k_is)
    (case l_law_lengths => k_is)
    (case c_law_lengths => k_is)
    (case k_law_lengths => k_is)
    (case a_law_gaps => k_is)
    (case l_law_gaps => k_is)
    (case c_law_gaps => k_is)
    (case k_law_gaps => k_is)
    (case a_law_measured => k_is)
    (case l_law_measured => k_is)
    (case c_law_measured => k_is)
    (case k_law_measured => k_is)
    (case a_law_all => k_is)
    (case l_law_all => k_is)
    (case c_law_all => k_is)
    (case k_law_all => k_is)
    (case a_law_refusal => k_is)
    (case l_law_refusal => k_is)
    (case c_law_refusal => k_is)
    (case k_law_refusal => k_is)
    (case a_law_two => k_is)
    (case l_law_two => k_is)
    (case c_law_two => k_is)
    (case k_law_two => k_is)
    (case a_law_cut => k_is)
    (case l_law_cut => k_is)
    (case c_law_cut => k_is)
    (case k_law_cut => k_is)
    (case a_law_prices => k_is)
    (case l_law_prices => k_is)
    (case c_law_prices => k_is)
    (case k_law_prices => k_is)
    (case a_law_due => k_is)
    (case l_law_due => k_is)
    (case c_law_due => k_is)
    (case k_law_due => k_is)
    (case a_law_refused => k_is)
    (case l_law_refused => k_is)
    (case c_law_refused => k_is)
    (case k_law_refused => k_is)
    (case a_law => k_is)
    (case l_law => k_is)
    (case c_law => k_is)
    (case k_law => k_is)
    (case a_LayError => k_is)
    (case x_LayError => k_exc)
    (case a_BadWeb => k_is)
    (case x_BadWeb => k_exc)
    (case e1_BadWeb => k_is)
    (case e2_BadWeb => k_is)
    (case e3_BadWeb => k_is)
    (case e4_BadWeb => k_is)
    (case e5_BadWeb => k_is)
    (case e6_BadWeb => k_is)
    (case s_BadWeb => k_is)
    (case v_BadWeb => kit_is)
    (case a_BadOrder => k_is)
    (case x_BadOrder => k_exc)
    (case e1_BadOrder => k_is)
    (case e2_BadOrder => k_is)
    (case e3_BadOrder => k_is)
    (case e4_BadOrder => k_is)
    (case e5_BadOrder => k_is)
    (case e6_BadOrder => k_is)
    (case s_BadOrder => k_is)
    (case v_BadOrder => kit_is)
    (case a_BadSpot => k_is)
    (case x_BadSpot => k_exc)
    (case e1_BadSpot => k_is)
    (case e2_BadSpot => k_is)
    (case e3_BadSpot => k_is)
    (case e4_BadSpot => k_is)
    (case e5_BadSpot => k_is)
    (case e6_BadSpot => k_is)
    (case s_BadSpot => k_is)
    (case v_BadSpot => kit_is)
    (case a_BadKind => k_is)
    (case x_BadKind => k_exc)
    (case e1_BadKind => k_is)
    (case e2_BadKind => k_is)
    (case e3_BadKind => k_is)
    (case e4_BadKind => k_is)
    (case e5_BadKind => k_is)
    (case e6_BadKind => k_is)
    (case s_BadKind => k_is)
    (case v_BadKind => kit_is)
    (case a_BadText => k_is)
    (case x_BadText => k_exc)
    (case e1_BadText => k_is)
    (case e2_BadText => k_is)
    (case e3_BadText => k_is)
    (case e4_BadText => k_is)
    (case e5_BadText => k_is)
    (case e6_BadText => k_is)
    (case s_BadText => k_is)
    (case v_BadText => kit_is)
    (case i_BadWeb_BadWeb => kit_is)
    (case i_BadWeb_BadOrder => kit_is)
    (case i_BadWeb_BadSpot => kit_is)
    (case i_BadWeb_BadKind => kit_is)
    (case i_BadWeb_BadText => kit_is)
    (case i_BadOrder_BadWeb => kit_is)
    (case i_BadOrder_BadOrder => kit_is)
    (case i_BadOrder_BadSpot => kit_is)
    (case i_BadOrder_BadKind => kit_is)
    (case i_BadOrder_BadText => kit_is)
    (case i_BadSpot_BadWeb => kit_is)
    (case i_BadSpot_BadOrder => kit_is)
    (case i_BadSpot_BadSpot => kit_is)
    (case i_BadSpot_BadKind => kit_is)
    (case i_BadSpot_BadText => kit_is)
    (case i_BadKind_BadWeb => kit_is)
    (case i_BadKind_BadOrder => kit_is)
    (case i_BadKind_BadSpot => kit_is)
    (case i_BadKind_BadKind => kit_is)
    (case i_BadKind_BadText => kit_is)
    (case i_BadText_BadWeb => kit_is)
    (case i_BadText_BadOrder => kit_is)
    (case i_BadText_BadSpot => kit_is)
    (case i_BadText_BadKind => kit_is)
    (case i_BadText_BadText => kit_is)
    (case g_MOST_PLACES => k_is)
    (case g_MOST_WEIGHT => k_is)
    (case z_abs => k_is)
    (case z_all => k_is)
    (case z_bool => k_is)
    (case z_int => k_is)
    (case z_isinstance => k_is)
    (case z_len => k_is)
    (case z_list => k_is)
    (case z_max => k_is)
    (case z_min => k_is)
    (case z_range => k_is)
    (case z_sorted => k_is)
    (case z_sum => k_is)
    (case z_tuple => k_is)
    (case z_ValueError => k_is)
    (case k_bool_bool => kit_is)
    (case k_bool_int => kit_is)
    (case k_bool_str => kit_is)
    (case k_bool_list => kit_is)
    (case k_bool_tuple => kit_is)
    (case k_int_bool => kit_is)
    (case k_int_int => kit_is)
    (case k_int_str => kit_is)
    (case k_int_list => kit_is)
    (case k_int_tuple => kit_is)
    (case k_str_bool => kit_is)
    (case k_str_int => kit_is)
    (case k_str_str => kit_is)
    (case k_str_list => kit_is)
    (case k_str_tuple => kit_is)
    (case k_list_bool => kit_is)
    (case k_list_int => kit_is)
    (case k_list_str => kit_is)
    (case k_list_list => kit_is)
    (case k_list_tuple => kit_is)
    (case k_tuple_bool => kit_is)
    (case k_tuple_int => kit_is)
    (case k_tuple_str => kit_is)
    (case k_tuple_list => kit_is)
    (case k_tuple_tuple => kit_is)
