import PyProof.Rows.All
import Wide.All
import OpenK.AllK
import Wide.FinOn
import Lean
import PyProof.EqAt
import PyProof.EqKinds
import PyProof.TupleCall
import PyProof.PassesOwn
import PyProof.StationsW
import PyProof.StrLawsTight
import KE.KIntText
import PyProof.StrLawsIdx
import PyProof.Rows.StrNews2
import PySem.Challenge.RW_rowlay_k40_texts
set_option Elab.async false
set_option linter.all false
set_option maxRecDepth 100000
namespace L2
open PySem PySem.Spec PyProof.Rows
abbrev Key := Sum Int Str
def keyIs : Key → Value → Bool
  | .inl k, v => Value.isInt k v
  | .inr x, v => Value.isStrOf x v
def keyH (w : World) : Key → Int
  | .inl k => hashInt k
  | .inr x => hashStr w x
theorem keyIs_shape : ∀ {k : Key} {v : Value}, keyIs k v = true → (∃ i t, k = Sum.inl i ∧ v = Value.int i t) ∨ (∃ x t, k = Sum.inr x ∧ v = Value.str x t)
  | .inl i, v, h => by
    obtain ⟨t, e⟩ := Value.isInt_shape (k := i) (v := v) h
    exact .inl ⟨i, t, rfl, e⟩
  | .inr x, v, h => by
    obtain ⟨t, e⟩ := Value.isStrOf_shape (x := x) (v := v) h
    exact .inr ⟨x, t, rfl, e⟩
theorem key_ll (a b : Int) : decide ((Sum.inl a : Key) = Sum.inl b) = (a == b) := by
  by_cases e : a = b
  · subst e; simp
  · have h : ¬ (Sum.inl a : Key) = Sum.inl b := fun q => e (Sum.inl.inj q)
    rw [decide_eq_false h]
    exact (beq_eq_false_iff_ne.mpr e).symm
theorem key_rr (a b : Str) : decide ((Sum.inr a : Key) = Sum.inr b) = decide (a = b) := by
  by_cases e : a = b
  · subst e; simp
  · have h : ¬ (Sum.inr a : Key) = Sum.inr b := fun q => e (Sum.inr.inj q)
    rw [decide_eq_false h, decide_eq_false e]
theorem key_lr (a : Int) (b : Str) : decide ((Sum.inl a : Key) = Sum.inr b) = false := decide_eq_false (fun q => nomatch q)
theorem key_rl (a : Str) (b : Int) : decide ((Sum.inr a : Key) = Sum.inl b) = false := decide_eq_false (fun q => nomatch q)
def mixKind (prog : Program) (w : World) : PySem.KeyKind prog w Key where
  is := keyIs
  hash := keyH w
  inj := fun v a b ha hb => by
    rcases keyIs_shape ha with ⟨i, t, rfl, rfl⟩ | ⟨x, t, rfl, rfl⟩
    · rcases keyIs_shape hb with ⟨j, u, rfl, e⟩ | ⟨y, u, rfl, e⟩
      · injection e with e1 _; rw [e1]
      · exact nomatch e
    · rcases keyIs_shape hb with ⟨j, u, rfl, e⟩ | ⟨y, u, rfl, e⟩
      · exact nomatch e
      · injection e with e1 _; rw [e1]
  byValue := fun k v h => by
    rcases keyIs_shape h with ⟨i, t, rfl, rfl⟩ | ⟨x, t, rfl, rfl⟩ <;> rfl
  pyHash := fun hv h => by
    rcases keyIs_shape hv with ⟨i, t, rfl, rfl⟩ | ⟨x, t, rfl, rfl⟩
    · exact wpAny_pyHash_int h
    · exact wpAny_pyHash_str h
  eqBool := fun hu hv h => by
    rcases keyIs_shape hu with ⟨i, t, rfl, rfl⟩ | ⟨x, t, rfl, rfl⟩
    · rcases keyIs_shape hv with ⟨j, u, rfl, rfl⟩ | ⟨y, u, rfl, rfl⟩
      · rw [key_ll] at h; exact wpAny_eqBool_int h
      · rw [key_lr] at h; exact SeqAt.EqAt.int_str i t y u _ _ _ _ h
    · rcases keyIs_shape hv with ⟨j, u, rfl, rfl⟩ | ⟨y, u, rfl, rfl⟩
      · rw [key_rl] at h; exact SeqAt.EqAt.str_int x t j u _ _ _ _ h
      · rw [key_rr] at h; exact wpAny_eqBool_str h
  «strs» := fun k x t v h => by
    rcases keyIs_shape h with ⟨i, u, rfl, e⟩ | ⟨y, u, rfl, e⟩
    · exact nomatch e
    · injection e with e1 _
      subst e1
      cases v <;> rfl
end L2
namespace L2
open PySem PySem.Spec PyProof.Rows
inductive V where
  | non | bl (b : Bool) | int (i : Int) | str (x : Str) | byt (b : Array UInt8) | flt (b : UInt64) | ref (a : Addr) | ty (n : String)
  deriving DecidableEq
def RelV : V → Value → Prop
  | .non, u => u = Value.none
  | .bl b, u => u = Value.bool b
  | .int i, u => ∃ t, u = Value.int i t
  | .str x, u => ∃ t, u = Value.str x t
  | .byt b, u => ∃ t, u = Value.bytes b t
  | .flt b, u => ∃ t, u = Value.float b t
  | .ref a, u => u = Value.ref a
  | .ty n, u => u = Value.type n
abbrev Vals : List V → List Value → Prop := Paired RelV
theorem Vals.length {xs : List V} {us : List Value} (r : Vals xs us) : xs.length = us.length := Paired.length r
theorem Vals.get : ∀ {xs : List V} {us : List Value} {i : Nat} {x : V}, Vals xs us → xs[i]? = some x → ∃ u, us[i]? = some u ∧ RelV x u
  | _, _, _, _, .nil, e => by simp at e
  | _, _, 0, _, .cons r _, e => by simp at e; subst e; exact ⟨_, rfl, r⟩
  | _, _, i + 1, x, .cons _ t, e => by
    obtain ⟨u, h1, h2⟩ := Vals.get (i := i) (x := x) t (by simpa using e)
    exact ⟨u, by simpa using h1, h2⟩
theorem Vals.set {x : V} {u : Value} (r : RelV x u) : ∀ {xs : List V} {us : List Value} (i : Nat), Vals xs us → Vals (xs.set i x) (us.set i u)
  | _, _, _, .nil => .nil
  | _, _, 0, .cons _ t => .cons r t
  | _, _, i + 1, .cons q t => .cons q (Vals.set r i t)
theorem Vals.append : ∀ {xs ys : List V} {us ws : List Value}, Vals xs us → Vals ys ws → Vals (xs ++ ys) (us ++ ws)
  | _, _, _, _, .nil, s => s
  | _, _, _, _, .cons r t, s => .cons r (Vals.append t s)
theorem Vals.take : ∀ {xs : List V} {us : List Value} (n : Nat), Vals xs us → Vals (xs.take n) (us.take n)
  | _, _, 0, _ => .nil
  | _, _, _ + 1, .nil => .nil
  | _, _, n + 1, .cons r t => .cons r (Vals.take n t)
theorem Vals.drop : ∀ {xs : List V} {us : List Value} (n : Nat), Vals xs us → Vals (xs.drop n) (us.drop n)
  | _, _, 0, r => r
  | _, _, _ + 1, .nil => .nil
  | _, _, n + 1, .cons _ t => Vals.drop n t
theorem Vals.none_of : ∀ {xs : List V} {us : List Value} {i : Nat}, Vals xs us → xs[i]? = none → us[i]? = none := fun {xs us i} r e => by
  have h1 := r.length
  have h2 : xs.length ≤ i := List.getElem?_eq_none_iff.mp e
  exact List.getElem?_eq_none_iff.mpr (by omega)
def RelO : Option V → Option Value → Prop
  | some v, some u => RelV v u
  | none, none => True
  | _, _ => False
def KV {κ : Type} : List (κ × V) → List (κ × Value) → Prop := Paired fun (p : κ × V) (q : κ × Value) => p.1 = q.1 ∧ RelV p.2 q.2
def kV : Key → V
  | .inl i => .int i
  | .inr x => .str x
inductive HO where
  /-- a list -/
  | lst (xs : List V)
  /-- a tuple (never changes) -/
  | tup (xs : List V)
  /-- a dict whose keys are ints and texts; one whose keys are tuples of ints and texts (the empty one is both) -/
  | dK (kvs : List (Key × V)) | dT (kvs : List (List Key × V))
  /-- a set of ints: its members, its size -/
  | set (S : Int → Bool) (n : Nat)
  /-- an instance of the class at C, its dict at dx, its attributes -/
  | ins (C dx : Addr) (fs : List (Str × V))
  /-- the dict of the instance at x -/
  | own (x : Addr)
  /-- the dict of an exception -/
  | xd (fs : List (Str × V))
  /-- a bound method, f of x -/
  | met (f x : Addr)
  /-- a range object lo, lo + 1, .. below hi -/
  | rng (lo hi : Int)
  /-- a thing that is known to the object (the script; a dict while a loop walks it): read, never written while it is so -/
  | frz (o : Obj) (u : HO)
  /-- a code object's table -/
  | tbl (ps : Array Value)
  /-- any other thing, by what is true of its one object (a def of one's own: SetO a S n := HO.ext fun h => ..) -/
  | ext (φ : Heap → Prop)
abbrev Hp := Addr → Option HO
def upd (H : Hp) (a : Addr) (o : HO) : Hp := fun b => if b = a then some o else H b
theorem upd_same {H : Hp} {a : Addr} {o : HO} : upd H a o a = some o := by unfold upd; rw [if_pos rfl]
theorem upd_ne {H : Hp} {a b : Addr} {o : HO} (h : b ≠ a) : upd H a o b = H b := by unfold upd; rw [if_neg h]
theorem ne_of_none {H : Hp} {a b : Addr} {o : HO} (h : H a = some o) (h' : H b = none) : a ≠ b := by
  intro e; subst e; rw [h] at h'; cases h'
section
variable (P : Program) (w : World)
def ObjOk (H : Hp) (h : Heap) (a : Addr) : HO → Prop
  | .lst xs => xs.length ≤ sizeLine ∧ ∃ (its : List Value) (n : Nat), Vals xs its ∧ h.get? a = some { cls := .type "list", data := .seq its.toArray n }
  | .tup xs => xs.length ≤ sizeLine ∧ ∃ its : List Value, Vals xs its ∧ IsTup h a its.toArray
  | .dK kvs => kvs.length ≤ sizeLine ∧ (a == sysModules) = false ∧ ∃ vs, KV kvs vs ∧ h.DictOf (mixKind P w) a vs
  | .dT kvs => kvs.length ≤ sizeLine ∧ (a == sysModules) = false ∧ ∃ xs : List (List Key × Addr × Value),
      Paired (fun (p : List Key × V) (q : List Key × Addr × Value) => p.1 = q.1 ∧ H q.2.1 = some (.tup (p.1.map kV)) ∧ RelV p.2 q.2.2) kvs xs ∧
      ∃ o es ep, h.get? a = some o ∧ o.ExactDict ∧ o.data = .dict es ep ∧ es.toList = xs.map (entryOfKey (tupleKind (mixKind P w))) ∧ (xs.map (·.1)).Nodup
  | .set S n => h.SetOf (intKind P w) a S n
  | .ins C dx fs => H dx = some (.own a) ∧ fs.length ≤ 1000 ∧ dx ≠ a ∧ h.get? a = some (PySem.W.instObj C dx) ∧
      ∃ mA, h.Ns1 dx mA ∧ (∀ f, RelO (fs.lookup f) (mA f)) ∧ PySem.Within mA (fs.map (·.1))
  | .own _ => ∃ o, h.get? a = some o
  | .xd fs => ∃ mA, h.Ns1 a mA ∧ ∀ f, RelO (fs.lookup f) (mA f)
  | .rng lo hi => ∃ t u v, h.get? a = some { cls := .type "range", data := .fields #[.int lo t, .int hi u, .int 1 v] }
  | .frz o u => h.get? a = some o ∧ ObjOk H h a u
  | .tbl ps => h.get? a = some { cls := .none, data := .fields ps }
  | .met f x => h.get? a = some (PySem.W.methodObj (.ref f) (.ref x))
  | .ext φ => φ h ∧ (∃ o, h.get? a = some o) ∧ ∀ h1 h2 : Heap, φ h1 → (∀ o, h1.get? a = some o → h2.get? a = some o) → φ h2
def HOk (H : Hp) (h : Heap) : Prop := ∀ a o, H a = some o → ObjOk P w H h a o
end
section
variable {P : Program} {w : World} {H H' : Hp} {h h' : Heap} {a : Addr} {o : HO}
theorem ObjOk.lt (x : ObjOk P w H h a o) : a < h.objs.size := by
  cases o with
  | lst xs => obtain ⟨_, _, _, _, e⟩ := x; exact Heap.lt_size e
  | tup xs => obtain ⟨_, _, _, p⟩ := x; exact p.lt
  | dK kvs => obtain ⟨_, _, _, _, o, _, _, e, _⟩ := x; exact Heap.lt_size e
  | dT kvs => obtain ⟨_, _, _, _, o, _, _, e, _⟩ := x; exact Heap.lt_size e
  | set S n => obtain ⟨o, _, _, _, e, _⟩ := x; exact Heap.lt_size e
  | ins C dx fs => obtain ⟨_, _, _, e, _⟩ := x; exact Heap.lt_size e
  | own y => obtain ⟨_, e⟩ := x; exact Heap.lt_size e
  | xd fs => obtain ⟨_, ⟨_, _, _, e, _⟩, _⟩ := x; exact Heap.lt_size e
  | rng lo hi => obtain ⟨_, _, _, e⟩ := x; exact Heap.lt_size e
  | frz ob u => obtain ⟨e, _⟩ := x; exact Heap.lt_size e
  | tbl ps => exact Heap.lt_size (show h.get? a = some _ from x)
  | met f y => exact Heap.lt_size (show h.get? a = some _ from x)
  | ext φ => obtain ⟨_, ⟨_, e⟩, _⟩ := x; exact Heap.lt_size e
theorem Paired.mapP {α β : Type} {F G : α → β → Prop} : ∀ {l₁ : List α} {l₂ : List β}, Paired F l₁ l₂ → (∀ a b, F a b → G a b) → Paired G l₁ l₂
  | _, _, .nil, _ => .nil
  | _, _, .cons r t, f => .cons (f _ _ r) (Paired.mapP t f)
theorem ObjOk.stay (x : ObjOk P w H h a o) (k : ∀ b u, (b = a ∨ H b = some (.own a)) → h.get? b = some u → h'.get? b = some u)
    (ho : ∀ b, H b = some (.own a) → H' b = some (.own a)) (ht : ∀ b xs, H b = some (.tup xs) → H' b = some (.tup xs)) : ObjOk P w H' h' a o := by
  induction o with
  | lst xs => obtain ⟨z, its, n, r, e⟩ := x; exact ⟨z, its, n, r, k _ _ (.inl rfl) e⟩
  | tup xs => obtain ⟨z, its, r, ob, e, c⟩ := x; exact ⟨z, its, r, ob, k _ _ (.inl rfl) e, c⟩
  | dK kvs => obtain ⟨z, y, vs, r, ob, es, ep, e, c⟩ := x; exact ⟨z, y, vs, r, ob, es, ep, k _ _ (.inl rfl) e, c⟩
  | dT kvs =>
    obtain ⟨z, y, xs, r, ob, es, ep, e, c⟩ := x
    exact ⟨z, y, xs, Paired.mapP r fun p q z => ⟨z.1, ht _ _ z.2.1, z.2.2⟩, ob, es, ep, k _ _ (.inl rfl) e, c⟩
  | set S n => obtain ⟨ob, es, ep, t, e, c⟩ := x; exact ⟨ob, es, ep, t, k _ _ (.inl rfl) e, c⟩
  | ins C dx fs =>
    obtain ⟨d, z, ne, e, mA, ⟨od, es, ep, e2, c⟩, r⟩ := x
    exact ⟨ho _ d, z, ne, k _ _ (.inl rfl) e, mA, ⟨od, es, ep, k _ _ (.inr d) e2, c⟩, r⟩
  | own y => obtain ⟨ob, e⟩ := x; exact ⟨ob, k _ _ (.inl rfl) e⟩
  | xd fs => obtain ⟨mA, ⟨od, es, ep, e, c⟩, r⟩ := x; exact ⟨mA, ⟨od, es, ep, k _ _ (.inl rfl) e, c⟩, r⟩
  | rng lo hi => obtain ⟨t, u, v, e⟩ := x; exact ⟨t, u, v, k _ _ (.inl rfl) e⟩
  | frz ob u ih => obtain ⟨e, q⟩ := x; exact ⟨k _ _ (.inl rfl) e, ih q⟩
  | tbl ps =>
    have e : h.get? a = some { cls := .none, data := .fields ps } := x
    show h'.get? a = some { cls := .none, data := .fields ps }
    exact k a _ (.inl rfl) e
  | met f y =>
    have e : h.get? a = some (PySem.W.methodObj (.ref f) (.ref y)) := x
    show h'.get? a = some (PySem.W.methodObj (.ref f) (.ref y))
    exact k a _ (.inl rfl) e
  | ext φ => obtain ⟨p, ⟨o, e⟩, st⟩ := x; exact ⟨st _ _ p fun o q => k _ _ (.inl rfl) q, ⟨o, k _ _ (.inl rfl) e⟩, st⟩
theorem HOk.lt (x : HOk P w H h) (e : H a = some o) : a < h.objs.size := (x a o e).lt
theorem HOk.fresh (x : HOk P w H h) (e : h.objs.size ≤ a) : H a = none := by
  cases q : H a with
  | none => rfl
  | some u => exact absurd (Nat.lt_of_lt_of_le (x.lt q) e) (Nat.lt_irrefl _)
theorem HOk.kept (x : HOk P w H h) (k : ∀ b u, h.get? b = some u → h'.get? b = some u) : HOk P w H h' := fun a o e =>
  (x a o e).stay (fun b u _ q => k b u q) (fun _ q => q) fun _ _ q => q
theorem HOk.laid (x : HOk P w H h) (k : ∀ b u, h.get? b = some u → h'.get? b = some u) (hp : h.objs.size ≤ a) (new : ObjOk P w (upd H a o) h' a o) : HOk P w (upd H a o) h' := fun b u e => by
  have hn := x.fresh hp
  by_cases hb : b = a
  · subst hb; rw [upd_same] at e; cases e; exact new
  · rw [upd_ne hb] at e
    exact (x b u e).stay (fun c v _ q => k c v q) (fun c q => by rw [upd_ne (ne_of_none q hn)]; exact q) fun c xs q => by rw [upd_ne (ne_of_none q hn)]; exact q
end
def Rd (H : Hp) (a : Addr) (u : HO) : Prop := H a = some u ∨ ∃ o, H a = some (.frz o u)
theorem Rd.of {H : Hp} {a : Addr} {u : HO} (h : H a = some u) : Rd H a u := .inl h
theorem Rd.ok {P : Program} {w : World} {H : Hp} {h : Heap} {a : Addr} {u : HO} (r : Rd H a u) (x : HOk P w H h) : ObjOk P w H h a u := by
  rcases r with r | ⟨o, r⟩
  · exact x a u r
  · obtain ⟨_, q⟩ := x a _ r
    exact q
def Mut : Option HO → Prop
  | some (.lst _) => True
  | some (.dK _) => True
  | some (.dT _) => True
  | some (.set _ _) => True
  | some (.ins _ _ _) => True
  | some (.ext _) => True
  | _ => False
section
variable {P : Program} {w : World} {H : Hp} {h h' : Heap} {x e : Addr} {o' : HO}
theorem HOk.write (ok : HOk P w H h) (mu : Mut (H x)) (he : e = x ∨ H e = some (.own x)) (k : ∀ b u, b ≠ e → h.get? b = some u → h'.get? b = some u) (heo : ∃ u, h'.get? e = some u)
    (new : ObjOk P w (upd H x o') h' x o') : HOk P w (upd H x o') h' := fun b u q => by
  have nown : ∀ c y, H c = some (.own y) → c ≠ x := fun c y r z => by subst z; rw [r] at mu; exact mu
  have ntup : ∀ c xs, H c = some (.tup xs) → c ≠ x := fun c xs r z => by subst z; rw [r] at mu; exact mu
  by_cases hb : b = x
  · subst hb; rw [upd_same] at q; cases q; exact new
  · rw [upd_ne hb] at q
    by_cases hbe : b = e
    · have q' : H b = some (.own x) := by
        rcases he with z | z
        · exact absurd (hbe.trans z) hb
        · rw [hbe]; exact z
      rw [q] at q'; cases q'
      obtain ⟨v, hv⟩ := heo
      exact ⟨v, by rw [hbe]; exact hv⟩
    · refine (ok b u q).stay (fun c v hc r => k c v ?_ r) (fun c r => by rw [upd_ne (nown c b r)]; exact r) fun c xs r => by rw [upd_ne (ntup c xs r)]; exact r
      rcases hc with rfl | hc
      · exact hbe
      · rintro rfl
        rcases he with z | z
        · exact nown c b hc z
        · rw [hc] at z; cases z; exact hb rfl
end
structure Un (fs ex : List Addr) (H H' : Hp) (h h' : Heap) : Prop where
  keep : ∀ b o, h.get? b = some o → H b = none → b ∉ fs → b ∉ ex → h'.get? b = some o
  slot : ∀ b o, h.get? b = some o → H b = none → b ∈ fs → b ∉ ex → ∃ sl, h'.get? b = some { o with slots := sl }
  free : ∀ b o, h.get? b = some o → H b = none → b ∉ ex → H' b = none
  there : ∀ b o, h.get? b = some o → b ∉ ex → ∃ o', h'.get? b = some o'
  tups : ∀ b xs, H b = some (.tup xs) → H' b = some (.tup xs)
  frzs : ∀ b o u, H b = some (.frz o u) → H' b = some (.frz o u)
  tbls : ∀ b ps, H b = some (.tbl ps) → ∃ more, H' b = some (.tbl (ps ++ more))
section
variable {fs fs' ex ex' : List Addr} {H H1 H2 : Hp} {h h1 h2 h' : Heap} {a x e : Addr} {o : HO}
theorem Un.any (u : Un fs ex H H1 h h1) {b : Addr} {ob : Obj} (q : h.get? b = some ob) (n : H b = none) (hx : b ∉ ex) : ∃ sl, h1.get? b = some { ob with slots := sl } := by
  by_cases hb : b ∈ fs
  · exact u.slot b ob q n hb hx
  · exact ⟨ob.slots, u.keep b ob q n hb hx⟩
theorem Un.trans (a : Un fs ex H H1 h h1) (b : Un fs ex H1 H2 h1 h2) : Un fs ex H H2 h h2 where
  keep := fun c ob q n hc hx => b.keep c ob (a.keep c ob q n hc hx) (a.free c ob q n hx) hc hx
  slot := fun c ob q n hc hx => by
    obtain ⟨sl, e1⟩ := a.slot c ob q n hc hx
    obtain ⟨sl', e2⟩ := b.slot c _ e1 (a.free c ob q n hx) hc hx
    exact ⟨sl', e2⟩
  free := fun c ob q n hx => by
    obtain ⟨o', e1⟩ := a.there c ob q hx
    exact b.free c o' e1 (a.free c ob q n hx) hx
  there := fun c ob q hx => by
    obtain ⟨o', e1⟩ := a.there c ob q hx
    exact b.there c o' e1 hx
  tups := fun c xs q => b.tups c xs (a.tups c xs q)
  frzs := fun c ob xs q => b.frzs c ob xs (a.frzs c ob xs q)
  tbls := fun c ps q => by
    obtain ⟨m1, e1⟩ := a.tbls c ps q
    obtain ⟨m2, e2⟩ := b.tbls c _ e1
    exact ⟨m1 ++ m2, by rw [e2, Array.append_assoc]⟩
theorem Un.kept (k : ∀ b u, h.get? b = some u → h'.get? b = some u) : Un fs ex H H h h' :=
  ⟨fun b ob q _ _ _ => k b ob q, fun b ob q _ _ _ => ⟨ob.slots, k b ob q⟩, fun _ _ _ n _ => n, fun b ob q _ => ⟨ob, k b ob q⟩, fun _ _ q => q, fun _ _ _ q => q, fun _ ps q => ⟨#[], by rw [q]; simp⟩⟩
theorem Un.refl : Un fs ex H H h h := Un.kept fun _ _ q => q
theorem Un.laid (k : ∀ b u, h.get? b = some u → h'.get? b = some u) (hp : h.objs.size ≤ a) (hn : H a = none) : Un fs ex H (upd H a o) h h' where
  keep := fun b u q _ _ _ => k b u q
  slot := fun b u q _ _ _ => ⟨u.slots, k b u q⟩
  free := fun b u q n _ => by rw [upd_ne (Nat.ne_of_lt (Nat.lt_of_lt_of_le (Heap.lt_size q) hp))]; exact n
  there := fun b u q _ => ⟨u, k b u q⟩
  tups := fun b xs q => by rw [upd_ne (ne_of_none q hn)]; exact q
  frzs := fun b u xs q => by rw [upd_ne (ne_of_none q hn)]; exact q
  tbls := fun b ps q => ⟨#[], by rw [upd_ne (ne_of_none q hn), q]; simp⟩
theorem Un.write (mu : Mut (H x)) (he : e = x ∨ H e = some (.own x)) (k : ∀ b u, b ≠ e → h.get? b = some u → h'.get? b = some u) (heo : ∃ u, h'.get? e = some u) : Un fs ex H (upd H x o) h h' := by
  have hx : ∀ b, H b = none → b ≠ x := fun b n z => by subst z; rw [n] at mu; exact mu
  have hb : ∀ b, H b = none → b ≠ e := fun b n z => by
    subst z
    rcases he with r | r
    · exact hx b n r
    · rw [n] at r; cases r
  have hm : ∀ b u, H b = some u → ¬ Mut (some u) → b ≠ x := fun b u q nm z => by subst z; rw [q] at mu; exact nm mu
  refine ⟨fun b u q n _ _ => k b u (hb b n) q, fun b u q n _ _ => ⟨u.slots, k b u (hb b n) q⟩, fun b u q n _ => by rw [upd_ne (hx b n)]; exact n, fun b u q _ => ?_,
    fun b xs q => by rw [upd_ne (hm b _ q fun z => z)]; exact q, fun b u xs q => by rw [upd_ne (hm b _ q fun z => z)]; exact q, fun b ps q => ⟨#[], by rw [upd_ne (hm b _ q fun z => z), q]; simp⟩⟩
  by_cases hbe : b = e
  · subst hbe; exact heo
  · exact ⟨u, k b u hbe q⟩
theorem Un.mono (u : Un fs ex H H1 h h1) (hs : ∀ b ∈ fs, b ∈ fs') (hx : ∀ b ∈ ex, b ∈ ex') : Un fs' ex' H H1 h h1 :=
  ⟨fun b ob q n hb he => u.keep b ob q n (fun z => hb (hs b z)) fun z => he (hx b z), fun _ _ q n _ he => u.any q n fun z => he (hx _ z), fun b ob q n he => u.free b ob q n fun z => he (hx b z), fun b ob q he => u.there b ob q fun z => he (hx b z), u.tups, u.frzs, u.tbls⟩
end
def trk (h : Heap) (H : Hp) : List Addr := (List.range h.objs.size).filter fun a => (H a).isSome
def hidT (h : Heap) (H : Hp) : Heap := PySem.W.hideAll h (trk h H)
theorem hidT_size (h : Heap) (H : Hp) : (hidT h H).objs.size = h.objs.size := PySem.W.hideAll_size _ _
theorem hidT_get {h : Heap} {H : Hp} {b : Addr} {o : Obj} (e : h.get? b = some o) (n : H b = none) : (hidT h H).get? b = some o :=
  PySem.W.hideAll_get _ e fun hm => by
    have q : (H b).isSome = true := (List.mem_filter.mp hm).2
    rw [n] at q; simp at q
theorem of_hidT {h : Heap} {H : Hp} {b : Addr} {o : Obj} (e : (hidT h H).get? b = some o) : h.get? b = some o ∧ H b = none := by
  have e' : h.get? b = some o := PySem.W.of_hideAll (trk h H) e
  refine ⟨e', ?_⟩
  cases q : H b with
  | none => rfl
  | some x =>
    have hm : b ∈ trk h H := List.mem_filter.mpr ⟨List.mem_range.mpr (Heap.lt_size e'), by simp [q]⟩
    have z : (hidT h H).get? b = none := PySem.W.hideAll_none (trk h H) hm
    rw [z] at e; cases e
def allNews (g h : Heap) (L : Addr) : List (Addr × Obj) := (List.range h.objs.size).filterMap fun a => if a = L ∨ (g.get? a).isSome = true then none else (h.get? a).map fun o => (a, o)
def rest (g h : Heap) (L d : Addr) : List (Addr × Obj) := (allNews g h L).filter fun p => decide (p.1 ≠ d)
end L2
namespace L2
open PySem PySem.Spec PyProof.Rows
structure Mod (K : PySem.W.Frag) (mg : Str → Option Value) (base : Heap) : Prop where
  kin : K.In base
  glob : base.Ns mainGlobals mg
  blt : ∃ mb, base.Ns builtinsNs mb ∧ ∀ x : Str, x ≠ "__name__" → mb x = bootBuiltins x
  nolimit : base.NoLimit
structure Cx where
  prog : Program
  w : World
  K : PySem.W.Frag
  mg : Str → Option Value
  base : Heap
  A : Around
  N : List Str
  s₀ : Shared
  H₀ : Hp
  env : Env
  outer : List Env
  stack : List Env
  ex : List Addr
  fn : Str → Bool
  calm : Bool
  pn : List (Addr × Obj)
  xe : Value → Shared → Prop
def frs (l : List Env) : List Addr := l.filterMap (·.frame)
abbrev Cx.fs (X : Cx) : List Addr := frs X.outer
def Vis (sc : Scope) (x : Str) : Prop := sc.names.lookup x = some .local ∨ sc.names.lookup x = some .cell ∨ sc.names.lookup x = some .free
def Loc (sc : Scope) (x : Str) : Prop := sc.names.lookup x = some .local ∨ sc.names.lookup x = some .cell
def Look (env : Env) (h : Heap) (m : Str → Option Value) (x : Str) (u : Value) : Prop :=
  (env.kindOf x = some .local ∧ m x = some u) ∨ ((env.kindOf x = some .cell ∨ env.kindOf x = some .free) ∧ ∃ c, env.cells.lookup x = some c ∧ h.IsCell c (some u))
structure Cx.Ok (X : Cx) : Prop where
  mod : Mod X.K X.mg X.base
  kind : X.env.scope.kind = .function
  glob : X.env.globals = mainGlobals
  blt : X.env.builtins = builtinsNs
  above : X.s₀.heap.objs.size ≤ X.env.locals
  inj : ∀ x y c, X.env.cells.lookup x = some c → X.env.cells.lookup y = some c → x = y
  has : ∀ x, (X.env.kindOf x = some .cell ∨ X.env.kindOf x = some .free) → ∃ c, X.env.cells.lookup x = some c
  cab : ∀ x c, X.fn x = true → X.env.cells.lookup x = some c → X.s₀.heap.objs.size ≤ c
  hd : X.calm = true → X.A.handled = none
  frames : X.A.frames = some X.stack
  stk : X.stack = X.outer ∨ (X.stack = X.env :: X.outer ∧ X.env.frame = some X.env.locals)
  exf : ∀ b ∈ X.ex, b ≠ X.env.locals ∧ ∀ x c, X.env.cells.lookup x = some c → c ≠ b
  bs : ∀ b o, X.base.get? b = some o → X.s₀.heap.get? b = some o ∧ X.H₀ b = none
  bsz : X.base.objs.size ≤ X.s₀.heap.objs.size
  noex : ∀ b o, X.base.get? b = some o → b ∉ X.ex
  exfs : ∀ b ∈ X.ex, b ∉ X.fs
  funs : X.s₀.heap.FunFrames X.base X.outer
  frf : ∀ b ∈ X.fs, X.H₀ b = none
structure Inv (X : Cx) (pins : List (Addr × Obj)) (σ : List (Option V)) (H : Hp) (s : Shared) : Prop where
  ok : X.Ok
  os : s.os = X.s₀.os
  bare : AllBare s.gens
  base : Un X.fs X.ex X.H₀ H X.s₀.heap s.heap
  loc : ∃ m, s.heap.Ns X.env.locals m ∧ ∀ (i : Nat) (x : Str) (v : V), X.N[i]? = some x → σ[i]? = some (some v) → Vis X.env.scope x → ∃ u, RelV v u ∧ Look X.env s.heap m x u
  cell : ∀ x c, X.env.cells.lookup x = some c → ∃ v, s.heap.IsCell c v
  free : H X.env.locals = none
  freeC : ∀ x c, X.env.cells.lookup x = some c → H c = none
  pin : ∀ p ∈ X.pn ++ pins, s.heap.get? p.1 = some p.2 ∧ H p.1 = none ∧ p.1 ≠ X.env.locals ∧ p.1 ∉ X.fs ∧ ∀ v, p.2.data ≠ .cell v
  hok : HOk X.prog X.w H s.heap
  len : σ.length = X.N.length
section
variable {X : Cx} {pins : List (Addr × Obj)} {σ : List (Option V)} {H H' : Hp} {s : Shared} {h' : Heap}
theorem Cx.Ok.nofr (ok : X.Ok) {b : Addr} {o : Obj} (e : X.base.get? b = some o) : b ∉ X.fs := fun hb => by
  have := (ok.funs.mem hb).1
  rw [e] at this; cases this
theorem Inv.bs (I : Inv X pins σ H s) : ∀ b o, X.base.get? b = some o → s.heap.get? b = some o ∧ H b = none := fun b o e =>
  ⟨I.base.keep b o (I.ok.bs b o e).1 (I.ok.bs b o e).2 (I.ok.nofr e) (I.ok.noex b o e), I.base.free b o (I.ok.bs b o e).1 (I.ok.bs b o e).2 (I.ok.noex b o e)⟩
theorem Inv.bk (I : Inv X pins σ H s) : ∀ b o, X.base.get? b = some o → s.heap.get? b = some o := fun b o e => (I.bs b o e).1
theorem Inv.mod (I : Inv X pins σ H s) : Mod X.K X.mg X.base := I.ok.mod
theorem Inv.kIn (I : Inv X pins σ H s) : X.K.In s.heap := I.ok.mod.kin.keeps I.bk
theorem Inv.nolimit (I : Inv X pins σ H s) : s.heap.NoLimit := I.ok.mod.nolimit.keeps I.bk
theorem Inv.fr (I : Inv X pins σ H s) : ∃ m, Fr X.base X.env.locals s.heap m :=
  let ⟨m, hn, _⟩ := I.loc
  ⟨m, hn, I.bk, Nat.le_trans I.ok.bsz I.ok.above⟩
theorem Inv.lt (I : Inv X pins σ H s) : X.env.locals < s.heap.objs.size := let ⟨_, hn, _⟩ := I.loc; hn.lt
theorem Inv.sz (I : Inv X pins σ H s) : X.s₀.heap.objs.size ≤ s.heap.objs.size := Nat.le_trans I.ok.above (Nat.le_of_lt I.lt)
theorem Inv.nofs (I : Inv X pins σ H s) {a : Addr} (h : s.heap.objs.size ≤ a) : a ∉ X.fs := fun hb => by
  obtain ⟨_, o, ho, _⟩ := I.ok.funs.mem hb
  exact absurd (Nat.lt_of_lt_of_le (Heap.lt_size ho) (Nat.le_trans I.sz h)) (Nat.lt_irrefl _)
theorem Inv.cne (I : Inv X pins σ H s) : ∀ x c, X.env.cells.lookup x = some c → c ≠ X.env.locals := fun x c e z => by
  obtain ⟨v, o, ho, hd⟩ := I.cell x c e
  obtain ⟨m, ⟨o', es, ep, ho', hd', _⟩, _⟩ := I.loc
  rw [z, ho'] at ho; cases ho; rw [hd'] at hd; cases hd
theorem Inv.funs (I : Inv X pins σ H s) : s.heap.FunFrames X.base X.outer := by
  have all : ∀ (l : List Env), (∀ b ∈ frs l, b ∈ X.fs) → X.s₀.heap.FunFrames X.base l → s.heap.FunFrames X.base l := by
    intro l
    induction l with
    | nil => intro _ _; trivial
    | cons env r ih =>
      intro hs hl
      obtain ⟨hk, ⟨L, o, hf, hn, ho, hd⟩, hr⟩ := hl
      have hL : L ∈ X.fs := hs L (by unfold frs; rw [List.filterMap_cons, hf]; exact List.mem_cons_self)
      obtain ⟨sl, e⟩ := I.base.slot L o ho (I.ok.frf L hL) hL fun z => I.ok.exfs L z hL
      exact ⟨hk, ⟨L, _, hf, hn, e, hd⟩, ih (fun b hb => hs b (by unfold frs; rw [List.filterMap_cons, hf]; exact List.mem_cons_of_mem _ hb)) hr⟩
  exact all X.outer (fun _ hb => hb) I.ok.funs
theorem Inv.stack (I : Inv X pins σ H s) : s.heap.FunFrames X.base X.stack := by
  rcases I.ok.stk with e | ⟨e, hf⟩
  · rw [e]; exact I.funs
  · rw [e]
    obtain ⟨m, hn, _⟩ := I.loc
    refine .cons (by rw [I.ok.kind]; decide) hf hn ?_ I.funs
    exact Heap.get?_none_of_le (Nat.le_trans I.ok.bsz I.ok.above)
theorem Inv.stkSub (I : Inv X pins σ H s) : ∀ b ∈ frs X.stack, b ∈ X.env.locals :: X.fs := fun b hb => by
  rcases I.ok.stk with e | ⟨e, hf⟩
  · rw [e] at hb; exact List.mem_cons_of_mem _ hb
  · rw [e] at hb
    unfold frs at hb
    rw [List.filterMap_cons, hf] at hb
    exact hb
theorem Inv.stkFree (I : Inv X pins σ H s) : ∀ b ∈ frs X.stack, H b = none := fun b hb => by
  rcases List.mem_cons.mp (I.stkSub b hb) with e | hb
  · rw [e]; exact I.free
  · obtain ⟨_, o, ho, _⟩ := I.ok.funs.mem hb
    exact I.base.free b o ho (I.ok.frf b hb) fun z => I.ok.exfs b z hb
theorem Inv.step {g' : Array GenState} {t' : Nat} {d' : Drawn} {ch : List Addr} (I : Inv X pins σ H s)
    (hch : ∀ b ∈ ch, (b ∈ X.ex ∨ X.s₀.heap.objs.size ≤ b) ∧ b ≠ X.env.locals ∧ (∀ x c, X.env.cells.lookup x = some c → c ≠ b) ∧ ∀ p ∈ X.pn ++ pins, p.1 ≠ b)
    (keep : ∀ b o, b ≠ X.env.locals → b ∉ X.fs → b ∉ ch → s.heap.get? b = some o → H b = none → h'.get? b = some o)
    (slot : ∀ b o, b ≠ X.env.locals → b ∈ X.fs → b ∉ ch → s.heap.get? b = some o → H b = none → ∃ sl, h'.get? b = some { o with slots := sl }) (free : ∀ b o, b ∉ ch → s.heap.get? b = some o → H b = none → H' b = none)
    (there : ∀ b o, b ∉ ch → s.heap.get? b = some o → ∃ o', h'.get? b = some o')
    (tups : ∀ b xs, H b = some (.tup xs) → H' b = some (.tup xs)) (frzs : ∀ b o u, H b = some (.frz o u) → H' b = some (.frz o u)) (tbls : ∀ b ps, H b = some (.tbl ps) → ∃ more, H' b = some (.tbl (ps ++ more)))
    (ns : ∀ m, s.heap.Ns X.env.locals m → h'.Ns X.env.locals m) (hok : HOk X.prog X.w H' h') (hg : AllBare g') :
    Inv X pins σ H' { s with heap := h', gens := g', drawn := d', toks := t' } := by
  have neL : ∀ b o, X.s₀.heap.get? b = some o → b ≠ X.env.locals := fun b o e => Nat.ne_of_lt (Nat.lt_of_lt_of_le (Heap.lt_size e) I.ok.above)
  have neC : ∀ b o, X.s₀.heap.get? b = some o → b ∉ X.ex → b ∉ ch := fun b o e hx hb => by
    rcases (hch b hb).1 with z | z
    · exact hx z
    · exact absurd (Nat.lt_of_lt_of_le (Heap.lt_size e) z) (Nat.lt_irrefl _)
  have cellK : ∀ x c, X.env.cells.lookup x = some c → ∀ v, s.heap.IsCell c v → h'.IsCell c v := fun x c e v ⟨o, ho, hd⟩ => by
    have nch : c ∉ ch := fun z => (hch c z).2.2.1 x c e rfl
    by_cases hc : c ∈ X.fs
    · obtain ⟨sl, q⟩ := slot c o (I.cne x c e) hc nch ho (I.freeC x c e)
      exact ⟨_, q, hd⟩
    · exact ⟨o, keep c o (I.cne x c e) hc nch ho (I.freeC x c e), hd⟩
  refine ⟨I.ok, I.os, hg, ⟨fun b o e n hb hx => ?_, fun b o e n hb hx => ?_, fun b o e n hx => ?_, fun b o e hx => ?_, fun b xs e => tups b xs (I.base.tups b xs e), fun b o xs e => frzs b o xs (I.base.frzs b o xs e), fun b ps e => ?_⟩, ?_, fun x c e => ?_, ?_, fun x c e => ?_, fun p hp => ?_, hok, I.len⟩
  · exact keep b o (neL b o e) hb (neC b o e hx) (I.base.keep b o e n hb hx) (I.base.free b o e n hx)
  · obtain ⟨sl, e1⟩ := I.base.slot b o e n hb hx
    obtain ⟨sl', e2⟩ := slot b _ (neL b o e) hb (neC b o e hx) e1 (I.base.free b o e n hx)
    exact ⟨sl', e2⟩
  · obtain ⟨o', e1⟩ := I.base.there b o e hx
    exact free b o' (neC b o e hx) e1 (I.base.free b o e n hx)
  · obtain ⟨o', e1⟩ := I.base.there b o e hx
    exact there b o' (neC b o e hx) e1
  · obtain ⟨m1, e1⟩ := I.base.tbls b ps e
    obtain ⟨m2, e2⟩ := tbls b _ e1
    exact ⟨m1 ++ m2, by rw [e2, Array.append_assoc]⟩
  · obtain ⟨m, hn, hl⟩ := I.loc
    refine ⟨m, ns m hn, fun i x v e1 e2 e3 => ?_⟩
    obtain ⟨u, r, l⟩ := hl i x v e1 e2 e3
    refine ⟨u, r, ?_⟩
    rcases l with l | ⟨k, c, e, z⟩
    · exact .inl l
    · exact .inr ⟨k, c, e, cellK x c e _ z⟩
  · obtain ⟨v, z⟩ := I.cell x c e
    exact ⟨v, cellK x c e v z⟩
  · obtain ⟨m, ⟨o, _, _, ho, _⟩, _⟩ := I.loc
    exact free _ o (fun z => (hch _ z).2.1 rfl) ho I.free
  · obtain ⟨v, o, ho, hd⟩ := I.cell x c e
    exact free c o (fun z => (hch c z).2.2.1 x c e rfl) ho (I.freeC x c e)
  · obtain ⟨e, n, ne, nf, d⟩ := I.pin p hp
    have nch : p.1 ∉ ch := fun z => (hch p.1 z).2.2.2 p hp rfl
    exact ⟨keep p.1 p.2 ne nf nch e n, free p.1 p.2 nch e n, ne, nf, d⟩
theorem Inv.un {t' : Nat} (I : Inv X pins σ H s) (u : Un X.fs [] H H' s.heap h') (hok : HOk X.prog X.w H' h') : Inv X pins σ H' { s with heap := h', toks := t' } := by
  obtain ⟨m, ⟨o, es, ep, ho, r⟩, _⟩ := id I.loc
  obtain ⟨sl, hL⟩ := u.any ho I.free (by simp)
  exact I.step (g' := s.gens) (d' := s.drawn) (ch := []) (fun _ z => nomatch z) (fun b o _ hb _ e n => u.keep b o e n hb (by simp)) (fun b o _ hb _ e n => u.slot b o e n hb (by simp)) (fun b o _ e n => u.free b o e n (by simp)) (fun b o _ e => u.there b o e (by simp)) u.tups u.frzs u.tbls (fun m' hm => by
    obtain ⟨o', es', ep', ho', r'⟩ := hm
    rw [ho] at ho'; cases ho'
    exact ⟨_, es', ep', hL, r'⟩) hok I.bare
theorem Inv.call {g' : Array GenState} {t' : Nat} {d' : Drawn} {ch : List Addr} (I : Inv X pins σ H s) (u : Un (frs X.stack) ch H H' s.heap h') (hok : HOk X.prog X.w H' h') (hg : AllBare g')
    (hch : ∀ b ∈ ch, (b ∈ X.ex ∨ X.s₀.heap.objs.size ≤ b) ∧ b ≠ X.env.locals ∧ (∀ x c, X.env.cells.lookup x = some c → c ≠ b) ∧ ∀ p ∈ X.pn ++ pins, p.1 ≠ b) :
    Inv X pins σ H' { s with heap := h', gens := g', drawn := d', toks := t' } := by
  obtain ⟨m, ⟨o, es, ep, ho, r⟩, _⟩ := id I.loc
  obtain ⟨sl, hL⟩ := u.any ho I.free fun z => (hch _ z).2.1 rfl
  exact I.step (ch := ch) hch (fun b o hL hb hc e n => u.keep b o e n (fun z => (List.mem_cons.mp (I.stkSub b z)).elim hL hb) hc) (fun b o _ _ hc e n => u.any e n hc) (fun b o hc e n => u.free b o e n hc) (fun b o hc e => u.there b o e hc) u.tups u.frzs u.tbls (fun m' hm => by
    obtain ⟨o', es', ep', ho', r'⟩ := hm
    rw [ho] at ho'; cases ho'
    exact ⟨_, es', ep', hL, r'⟩) hok hg
theorem Inv.turned {t' : Nat} {it : Addr} (I : Inv X pins σ H s) (k : ∀ b o, b ≠ it → s.heap.get? b = some o → h'.get? b = some o) (hn : H it = none) (hL : it ≠ X.env.locals)
    (h1 : it ∈ X.ex ∨ X.s₀.heap.objs.size ≤ it) (h2 : ∀ x c, X.env.cells.lookup x = some c → c ≠ it) (h3 : ∀ p ∈ X.pn ++ pins, p.1 ≠ it) : Inv X pins σ H { s with heap := h', toks := t' } := by
  have nit : ∀ b u, H b = some u → b ≠ it := fun b u e z => by rw [z, hn] at e; cases e
  refine I.step (g' := s.gens) (d' := s.drawn) (ch := [it]) (fun b hb => ?_) (fun b o _ _ hc e _ => k b o (fun z => hc (by simp [z])) e) (fun b o _ _ hc e _ => ⟨o.slots, k b o (fun z => hc (by simp [z])) e⟩) (fun _ _ _ _ n => n)
    (fun b o hc e => ⟨o, k b o (fun z => hc (by simp [z])) e⟩) (fun _ _ e => e) (fun _ _ _ e => e) (fun b ps e => ⟨#[], by rw [e]; simp⟩) (fun m hm => ?_) (fun b u e => ?_) I.bare
  · have e : b = it := by simpa using hb
    subst e
    exact ⟨h1, hL, h2, h3⟩
  · obtain ⟨o, es, ep, ho, r⟩ := hm
    exact ⟨o, es, ep, k _ o (Ne.symm hL) ho, r⟩
  · refine (I.hok b u e).stay (fun c v hc q => k c v ?_ q) (fun _ q => q) fun _ _ q => q
    rcases hc with z | z
    · rw [z]; exact nit b u e
    · exact nit c _ z
theorem Inv.tok (I : Inv X pins σ H s) (t : Nat) : Inv X pins σ H { s with toks := t } := I.un (h' := s.heap) (t' := t) Un.refl I.hok
theorem Inv.kept {t' : Nat} (I : Inv X pins σ H s) (k : ∀ b u, s.heap.get? b = some u → h'.get? b = some u) : Inv X pins σ H { s with heap := h', toks := t' } := I.un (Un.kept k) (I.hok.kept k)
theorem Inv.laid {a : Addr} {o : HO} {t' : Nat} (I : Inv X pins σ H s) (k : ∀ b u, s.heap.get? b = some u → h'.get? b = some u) (hp : s.heap.objs.size ≤ a) (new : ObjOk X.prog X.w (upd H a o) h' a o) :
    Inv X pins σ (upd H a o) { s with heap := h', toks := t' } := I.un (Un.laid k hp (I.hok.fresh hp)) (I.hok.laid k hp new)
theorem Inv.write {x e : Addr} {o : HO} {t' : Nat} (I : Inv X pins σ H s) (mu : Mut (H x)) (he : e = x ∨ H e = some (.own x)) (k : ∀ b u, b ≠ e → s.heap.get? b = some u → h'.get? b = some u) (heo : ∃ u, h'.get? e = some u)
    (new : ObjOk X.prog X.w (upd H x o) h' x o) : Inv X pins σ (upd H x o) { s with heap := h', toks := t' } := I.un (Un.write mu he k heo) (I.hok.write mu he k heo new)
theorem Inv.weak {σ' : List (Option V)} (I : Inv X pins σ H s) (hl : σ'.length = σ.length) (w : ∀ (i : Nat) v, σ'[i]? = some (some v) → σ[i]? = some (some v)) : Inv X pins σ' H s :=
  ⟨I.ok, I.os, I.bare, I.base, let ⟨m, hn, hl'⟩ := I.loc; ⟨m, hn, fun i x v e1 e2 e3 => hl' i x v e1 (w i v e2) e3⟩, I.cell, I.free, I.freeC, I.pin, I.hok, hl.trans I.len⟩
theorem Inv.pins_of {pins' : List (Addr × Obj)} (I : Inv X pins σ H s) (h : ∀ p ∈ pins', s.heap.get? p.1 = some p.2 ∧ H p.1 = none ∧ p.1 ≠ X.env.locals ∧ p.1 ∉ X.fs ∧ ∀ v, p.2.data ≠ .cell v) : Inv X pins' σ H s :=
  ⟨I.ok, I.os, I.bare, I.base, I.loc, I.cell, I.free, I.freeC, fun p hp => (List.mem_append.mp hp).elim (fun z => I.pin p (List.mem_append_left _ z)) (h p), I.hok, I.len⟩
theorem nodup_ix {N : List Str} (hN : N.Nodup) {i j : Nat} {x : Str} (a : N[i]? = some x) (b : N[j]? = some x) : i = j := by
  obtain ⟨h1, e1⟩ := List.getElem?_eq_some_iff.mp a
  obtain ⟨h2, e2⟩ := List.getElem?_eq_some_iff.mp b
  exact (List.getElem_inj hN).mp (e1.trans e2.symm)
theorem store_ok2 {M : Model} {A : Around} {E : Value → Shared → Prop} {i : Nat} {x : Str} {v : V} {u : Value} {Q : Unit → Shared → Prop} (I : Inv X pins σ H s) (hN : X.N.Nodup) (hi : X.N[i]? = some x) (hx : Loc X.env.scope x) (r : RelV v u)
    (h : ∀ s', Inv X pins (σ.set i (some v)) H s' → (∃ a, Heap.SameBut a s.heap s'.heap ∧ (a = X.env.locals ∨ X.env.cells.lookup x = some a)) → Q () s') (hf : X.fn x = true ∨ X.env.scope.names.lookup x = some .local := by first | exact .inl rfl | exact .inr rfl | assumption) : wpAny M A (storeName X.env x u) Q E s := by
  obtain ⟨m, hn, hl⟩ := id I.loc
  have hcls : (X.env.scope.kind == .class || (X.env.scope.kind == .module && X.env.locals != X.env.globals)) = false := by rw [I.ok.kind]; rfl
  have hiσ : i < σ.length := by rw [I.len]; exact (List.getElem?_eq_some_iff.mp hi).1
  have cne := I.cne
  have tracked : ∀ {a : Addr} {h' : Heap}, (∃ o, s.heap.get? a = some o ∧ H a = none) → Heap.SameBut a s.heap h' → HOk X.prog X.w H h' := fun {a h'} ha hs b ob e => by
    obtain ⟨_, _, hfree⟩ := ha
    refine (I.hok b ob e).stay (fun c w' hc q => (hs.2 c ?_).trans q) (fun _ q => q) fun _ _ q => q
    rintro rfl
    rcases hc with rfl | hc
    · rw [hfree] at e; cases e
    · rw [hfree] at hc; cases hc
  rcases hx with hk | hk
  · refine wpAny_storeName_local hk hn (fun h' hn' hs => ?_) hcls
    obtain ⟨oL, _, _, hoL, _⟩ := id hn
    refine h _ ⟨I.ok, I.os, I.bare, ⟨fun b o e n hb hx => ?_, fun b o e n hb hx => ?_, I.base.free, fun b o e hx => ?_, I.base.tups, I.base.frzs, I.base.tbls⟩, ⟨_, hn', fun j y v' e1 e2 e3 => ?_⟩, fun y c e => ?_, I.free, I.freeC, fun p hp => ?_, tracked ⟨oL, hoL, I.free⟩ hs, by simpa using I.len⟩ ⟨_, hs, .inl rfl⟩
    · exact (hs.2 b (Nat.ne_of_lt (Nat.lt_of_lt_of_le (Heap.lt_size e) I.ok.above))).trans (I.base.keep b o e n hb hx)
    · obtain ⟨sl, e1⟩ := I.base.slot b o e n hb hx
      exact ⟨sl, (hs.2 b (Nat.ne_of_lt (Nat.lt_of_lt_of_le (Heap.lt_size e) I.ok.above))).trans e1⟩
    · obtain ⟨o', e1⟩ := I.base.there b o e hx
      exact ⟨o', (hs.2 b (Nat.ne_of_lt (Nat.lt_of_lt_of_le (Heap.lt_size e) I.ok.above))).trans e1⟩
    · by_cases hj : j = i
      · subst hj
        rw [hi] at e1; cases e1
        rw [List.getElem?_set_self hiσ] at e2
        cases e2
        exact ⟨u, r, .inl ⟨hk, by simp⟩⟩
      · rw [List.getElem?_set_ne (Ne.symm hj)] at e2
        obtain ⟨u', r', q⟩ := hl j y v' e1 e2 e3
        refine ⟨u', r', ?_⟩
        rcases q with ⟨k, e⟩ | ⟨k, c, e, z⟩
        · refine .inl ⟨k, ?_⟩
          have : y ≠ x := fun e => hj (nodup_ix hN e1 (e ▸ hi))
          simp [this, e]
        · exact .inr ⟨k, c, e, z.sameBut hs (cne y c e)⟩
    · obtain ⟨w', z⟩ := I.cell y c e
      exact ⟨w', z.sameBut hs (cne y c e)⟩
    · obtain ⟨e, n, ne, nf, d⟩ := I.pin p hp
      exact ⟨(hs.2 p.1 ne).trans e, n, ne, nf, d⟩
  · have hfn : X.fn x = true := by
      rcases hf with z | z
      · exact z
      · rw [z] at hk; cases hk
    obtain ⟨c, hc⟩ := I.ok.has x (.inl hk)
    obtain ⟨w', z⟩ := I.cell x c hc
    refine wpAny_storeName_cell I.ok.kind hk hc z (fun h' hc' hs => ?_)
    obtain ⟨oc, hoc, hocd⟩ := id z
    refine h { s with heap := h' } ⟨I.ok, I.os, I.bare, ⟨fun b o e n hb hx => ?_, fun b o e n hb hx => ?_, I.base.free, fun b o e hx => ?_, I.base.tups, I.base.frzs, I.base.tbls⟩, ⟨m, hn.sameBut hs (Ne.symm (cne x c hc)), fun j y v' e1 e2 e3 => ?_⟩, fun y c' e => ?_, I.free, I.freeC, fun p hp => ?_, tracked ⟨oc, hoc, I.freeC x c hc⟩ hs, by simpa using I.len⟩ ⟨c, hs, .inr hc⟩
    · exact (hs.2 b (Nat.ne_of_lt (Nat.lt_of_lt_of_le (Heap.lt_size e) (I.ok.cab x c hfn hc)))).trans (I.base.keep b o e n hb hx)
    · obtain ⟨sl, e1⟩ := I.base.slot b o e n hb hx
      exact ⟨sl, (hs.2 b (Nat.ne_of_lt (Nat.lt_of_lt_of_le (Heap.lt_size e) (I.ok.cab x c hfn hc)))).trans e1⟩
    · obtain ⟨o', e1⟩ := I.base.there b o e hx
      exact ⟨o', (hs.2 b (Nat.ne_of_lt (Nat.lt_of_lt_of_le (Heap.lt_size e) (I.ok.cab x c hfn hc)))).trans e1⟩
    · by_cases hj : j = i
      · subst hj
        rw [hi] at e1; cases e1
        rw [List.getElem?_set_self hiσ] at e2
        cases e2
        exact ⟨u, r, .inr ⟨.inl hk, c, hc, hc'⟩⟩
      · rw [List.getElem?_set_ne (Ne.symm hj)] at e2
        obtain ⟨u', r', q⟩ := hl j y v' e1 e2 e3
        refine ⟨u', r', ?_⟩
        rcases q with q | ⟨k, c', e, z'⟩
        · exact .inl q
        · refine .inr ⟨k, c', e, z'.sameBut hs ?_⟩
          rintro rfl
          exact hj (nodup_ix hN e1 (I.ok.inj _ _ _ e hc ▸ hi))
    · by_cases hcc : c' = c
      · subst hcc; exact ⟨_, hc'⟩
      · obtain ⟨w2, z2⟩ := I.cell y c' e
        exact ⟨w2, z2.sameBut hs hcc⟩
    · obtain ⟨e, n, ne, nf, d⟩ := I.pin p hp
      refine ⟨(hs.2 p.1 ?_).trans e, n, ne, nf, d⟩
      intro q
      rw [q, hoc] at e
      have q' : oc = p.2 := Option.some.inj e
      exact d w' (by rw [← q']; exact hocd)
theorem store_ok {M : Model} {A : Around} {E : Value → Shared → Prop} {i : Nat} {x : Str} {v : V} {u : Value} {Q : Unit → Shared → Prop} (I : Inv X pins σ H s) (hN : X.N.Nodup) (hi : X.N[i]? = some x) (hx : Loc X.env.scope x) (r : RelV v u)
    (h : ∀ s', Inv X pins (σ.set i (some v)) H s' → Q () s') (hf : X.fn x = true ∨ X.env.scope.names.lookup x = some .local := by first | exact .inl rfl | exact .inr rfl | assumption) : wpAny M A (storeName X.env x u) Q E s :=
  store_ok2 I hN hi hx r (fun s' I' _ => h s' I') hf
theorem Inv.call' {s' : Shared} {ch : List Addr} (I : Inv X pins σ H s) (ho : s'.os = s.os) (u : Un (frs X.stack) ch H H' s.heap s'.heap) (hok : HOk X.prog X.w H' s'.heap) (hg : AllBare s'.gens)
    (hch : ∀ b ∈ ch, (b ∈ X.ex ∨ X.s₀.heap.objs.size ≤ b) ∧ b ≠ X.env.locals ∧ (∀ x c, X.env.cells.lookup x = some c → c ≠ b) ∧ ∀ p ∈ X.pn ++ pins, p.1 ≠ b) : Inv X pins σ H' s' := by
  obtain ⟨h', g', d', t', o'⟩ := s'
  have e : o' = s.os := ho
  subst e
  exact I.call (g' := g') (t' := t') (d' := d') u hok hg hch
end
abbrev XK := Value → Option Addr → Hp → Prop
abbrev St := List (Option V)
abbrev VK := V → Hp → Prop
abbrev TE := St → Hp → VK → Prop
abbrev TT := St → Hp → (Bool → Hp → Prop) → Prop
abbrev TA := St → Hp → (List V → Hp → Prop) → Prop
structure Ends where
  nx : St → Hp → Prop
  rt : VK
  bk : St → Hp → Prop := fun _ _ => False
  ct : St → Hp → Prop := fun _ _ => False
abbrev TS := Ends → St → Hp → Prop
def EP (X : Cx) (pins : List (Addr × Obj)) (σ : St) (Q : VK) (u : Value) (s' : Shared) : Prop := ∃ v H', Inv X pins σ H' s' ∧ RelV v u ∧ Q v H'
def TP (X : Cx) (pins : List (Addr × Obj)) (σ : St) (Q : Bool → Hp → Prop) (b : Bool) (s' : Shared) : Prop := ∃ H', Inv X pins σ H' s' ∧ Q b H'
def AP (X : Cx) (pins : List (Addr × Obj)) (σ : St) (Q : List V → Hp → Prop) (us : List Value) (s' : Shared) : Prop := ∃ vs H', Inv X pins σ H' s' ∧ Vals vs us ∧ Q vs H'
def SP (X : Cx) (pins : List (Addr × Obj)) (D : Ends) (f : Flow) (s' : Shared) : Prop :=
  match f with
  | .next => ∃ σ' H', Inv X pins σ' H' s' ∧ D.nx σ' H'
  | .brk => ∃ σ' H', Inv X pins σ' H' s' ∧ D.bk σ' H'
  | .cont => ∃ σ' H', Inv X pins σ' H' s' ∧ D.ct σ' H'
  | .ret u => ∃ v σ' H', Inv X pins σ' H' s' ∧ RelV v u ∧ D.rt v H'
def PE (X : Cx) (e : Expr) (t : TE) : Prop :=
  ∀ (pins : List (Addr × Obj)) (s : Shared) (σ : St) (H : Hp) (Q : VK), Inv X pins σ H s → t σ H Q → wpAny (model X.prog X.w) X.A (eval e X.env) (EP X pins σ Q) X.xe s
def PT (X : Cx) (e : Expr) (t : TT) : Prop :=
  ∀ (pins : List (Addr × Obj)) (s : Shared) (σ : St) (H : Hp) (Q : Bool → Hp → Prop), Inv X pins σ H s → t σ H Q → wpAny (model X.prog X.w) X.A (isTrue e X.env (eval e X.env)) (TP X pins σ Q) X.xe s
def PW (X : Cx) (e : Expr) (t : TT) : Prop :=
  ∀ (whole : Sem Value) (pins : List (Addr × Obj)) (s : Shared) (σ : St) (H : Hp) (Q : Bool → Hp → Prop), Inv X pins σ H s → t σ H Q → wpAny (model X.prog X.w) X.A (isTrue e X.env whole) (TP X pins σ Q) X.xe s
theorem PW.pt {X : Cx} {e : Expr} {t : TT} (h : PW X e t) : PT X e t := h _
def PA (X : Cx) (es : List Expr) (t : TA) : Prop :=
  ∀ (pos : Pos) (pins : List (Addr × Obj)) (s : Shared) (σ : St) (H : Hp) (Q : List V → Hp → Prop), Inv X pins σ H s → t σ H Q → wpAny (model X.prog X.w) X.A (spliced (backTo pos (starEach es X.env))) (AP X pins σ Q) X.xe s
def PS (X : Cx) (st : Stmt) (t : TS) : Prop :=
  ∀ (pins : List (Addr × Obj)) (s : Shared) (σ : St) (H : Hp) (D : Ends), Inv X pins σ H s → t D σ H → wpAny (model X.prog X.w) X.A (exec st X.env) (SP X pins D) X.xe s
def PSs (X : Cx) (st : List Stmt) (t : TS) : Prop :=
  ∀ (pins : List (Addr × Obj)) (s : Shared) (σ : St) (H : Hp) (D : Ends), Inv X pins σ H s → t D σ H → wpAny (model X.prog X.w) X.A (execs st X.env) (SP X pins D) X.xe s
theorem thn {α : Type} {t : Sem α} {Q Q' : α → Shared → Prop} {M : Model} {A : Around} {E : Value → Shared → Prop} {s : Shared} (h : wpAny M A t Q E s) (hQ : ∀ a s, Q a s → Q' a s) : wpAny M A t Q' E s := wpAny_mono h hQ fun _ _ x => x
end L2
namespace L2
open PySem PySem.Spec PyProof.Rows
section
variable {X : Cx}
def tVar (i : Nat) : TE := fun σ H Q => ∃ v, σ[i]? = some (some v) ∧ Q v H
def tC (v : V) : TE := fun _ H Q => Q v H
theorem pe_var {i : Nat} {x : Str} {pos : Pos} (hN : X.N[i]? = some x) (hv : Vis X.env.scope x) (hd : (x == ("__debug__" : Str)) = false := by decide) (hcd : (x == ("__classdict__" : Str)) = false := by decide) : PE X (.Name x pos) (tVar i) := by
  intro pins s σ H Q I h
  obtain ⟨v, e, h⟩ := h
  obtain ⟨m, hn, hl⟩ := I.loc
  obtain ⟨u, r, l⟩ := hl i x v hN e hv
  have fin : EP X pins σ Q u s := ⟨v, H, I, r, h⟩
  rcases l with ⟨hk, hm⟩ | ⟨hk, c, hc, hcell⟩
  · exact wpAny_Name (wpAny_loadName_local I.ok.kind hk hn hm fin) hd
  · rcases hk with hk | hk
    · exact wpAny_Name (wpAny_loadName_cell I.ok.kind hk hc hcell fin) hd
    · exact wpAny_Name (wpAny_loadName_free I.ok.kind hk hc hcell fin hcd) hd
theorem pe_int {i j pos} : PE X (.Constant (.int i) j pos) (tC (.int i)) := fun _ _ _ H _ I h => wpAny_Constant_int ⟨.int i, H, I.tok _, ⟨_, rfl⟩, h⟩
theorem pe_bl {b j pos} : PE X (.Constant (.bool b) j pos) (tC (.bl b)) := fun _ _ _ H _ I h => Constant_bool ⟨.bl b, H, I, rfl, h⟩
theorem pe_non {j pos} : PE X (.Constant .none j pos) (tC .non) := fun _ _ _ H _ I h => Constant_none ⟨.non, H, I, rfl, h⟩
theorem pe_str {x j pos} : PE X (.Constant (.str x) j pos) (tC (.str x)) := fun _ _ _ H _ I h => Calls.Constant_str ⟨.str x, H, I.tok _, ⟨_, rfl⟩, h⟩
def Gl (X : Cx) (x : Str) : Prop := X.env.kindOf x = some .globalImplicit
theorem ld_glob {E : Value → Shared → Prop} {pins : List (Addr × Obj)} {s : Shared} {σ : St} {H : Hp} {x : Str} {u : Value} {pos : Pos} {Q : Value → Shared → Prop} (I : Inv X pins σ H s) (hg : Gl X x) (hm : X.mg x = some u) (h : Q u s)
    (hd : (x == ("__debug__" : Str)) = false := by decide) : wpAny (model X.prog X.w) X.A (eval (.Name x pos) X.env) Q E s :=
  Calls.Name_function_global I.ok.kind hg (Calls.loadGlobal_global (by rw [I.ok.glob]; exact I.mod.glob.keeps I.bk) hm h) hd
theorem ld_blt {E : Value → Shared → Prop} {pins : List (Addr × Obj)} {s : Shared} {σ : St} {H : Hp} {x : Str} {u : Value} {pos : Pos} {Q : Value → Shared → Prop} (I : Inv X pins σ H s) (hg : Gl X x) (hm : X.mg x = none) (hv : bootBuiltins x = some u) (h : Q u s)
    (hn : x ≠ "__name__" := by decide) (hd : (x == ("__debug__" : Str)) = false := by decide) : wpAny (model X.prog X.w) X.A (eval (.Name x pos) X.env) Q E s := by
  obtain ⟨mb, h1, h2⟩ := I.mod.blt
  exact Calls.Name_function_global I.ok.kind hg (Calls.loadGlobal_builtin (by rw [I.ok.glob]; exact I.mod.glob.keeps I.bk) hm (by rw [I.ok.blt]; exact h1.keeps I.bk) ((h2 x hn).trans hv) h) hd
theorem pe_glob {x : Str} {v : V} {u : Value} {pos : Pos} (hg : Gl X x) (hm : X.mg x = some u) (r : RelV v u) (hd : (x == ("__debug__" : Str)) = false := by decide) : PE X (.Name x pos) (tC v) :=
  fun _ _ _ H _ I h => ld_glob I hg hm ⟨v, H, I, r, h⟩ hd
theorem pe_bltn {x : Str} {v : V} {u : Value} {pos : Pos} (hg : Gl X x) (hm : X.mg x = none) (hv : bootBuiltins x = some u) (r : RelV v u) (hn : x ≠ "__name__" := by decide) (hd : (x == ("__debug__" : Str)) = false := by decide) : PE X (.Name x pos) (tC v) :=
  fun _ _ _ H _ I h => ld_blt I hg hm hv ⟨v, H, I, r, h⟩ hn hd
variable {a b : Expr} {ta tb : TE} {pos : Pos}
def PC (X : Cx) (op : CmpOp) (a b : Expr) (t : TE) : Prop :=
  ∀ (pins : List (Addr × Obj)) (s : Shared) (σ : St) (H : Hp) (Q : VK), Inv X pins σ H s → t σ H Q →
    wpAny (model X.prog X.w) X.A (eval a X.env) (fun v s₁ => wpAny (model X.prog X.w) X.A (eval b X.env) (fun u s₂ => wpAny (model X.prog X.w) X.A (compareOp op v u) (EP X pins σ Q) X.xe s₂) X.xe s₁) X.xe s
theorem nobehind (b : Expr) {op : CmpOp} (h : op ≠ .In) (h2 : op ≠ .NotIn) : behindInMarks op b = false := by
  have e1 : (op == CmpOp.In) = false := by cases op <;> first | rfl | exact absurd rfl h
  have e2 : (op == CmpOp.NotIn) = false := by cases op <;> first | rfl | exact absurd rfl h2
  cases b <;> simp [behindInMarks, e1, e2]
def tIsN (ta : TE) : TE := fun σ H Q => ta σ H fun x H1 => Q (.bl (decide (x = .non))) H1
def tNotN (ta : TE) : TE := fun σ H Q => ta σ H fun x H1 => Q (.bl (!decide (x = .non))) H1
theorem RelV.none_iff {x : V} {v : Value} (r : RelV x v) : (v == Value.none) = decide (x = .non) := by
  cases x with
  | non => cases r; rfl
  | bl _ => cases r; rfl
  | int _ => obtain ⟨t, rfl⟩ := r; rfl
  | str _ => obtain ⟨t, rfl⟩ := r; rfl
  | byt _ => obtain ⟨t, rfl⟩ := r; rfl
  | flt _ => obtain ⟨t, rfl⟩ := r; rfl
  | ref _ => cases r; rfl
  | ty _ => cases r; rfl
theorem pc_isN {j pos'} (ha : PE X a ta) : PC X .Is a (.Constant .none j pos') (tIsN ta) := by
  intro pins s σ H Q I h
  refine thn (ha pins s σ H _ I h) fun v s1 ⟨x, H1, I1, r1, q1⟩ => ?_
  exact Constant_none (is_none_gen ⟨.bl _, H1, I1, by rw [r1.none_iff]; rfl, q1⟩)
theorem pc_notN {j pos'} (ha : PE X a ta) : PC X .IsNot a (.Constant .none j pos') (tNotN ta) := by
  intro pins s σ H Q I h
  refine thn (ha pins s σ H _ I h) fun v s1 ⟨x, H1, I1, r1, q1⟩ => ?_
  exact Constant_none (isnot_none_gen ⟨.bl _, H1, I1, by rw [r1.none_iff]; rfl, q1⟩)
def tB (t : TE) : TT := fun σ H Q => t σ H fun x H1 => ∃ c, x = .bl c ∧ Q c H1
theorem pe_cmp {op : CmpOp} {t : TE} (h : PC X op a b t) (h1 : behindInMarks op b = false := by first | exact nobehind _ (by decide) (by decide) | rfl) : PE X (.Compare a [op] [b] pos) t := fun pins s σ H Q I hw => wpAny_Compare1 (h pins s σ H Q I hw) h1
theorem pt_cmp {op : CmpOp} {t : TE} (h : PC X op a b t) (h1 : behindInMarks op b = false := by first | exact nobehind _ (by decide) (by decide) | rfl) : PT X (.Compare a [op] [b] pos) (tB t) := by
  intro pins s σ H Q I hw
  refine wpAny_isTrue_Compare1 (thn (h pins s σ H _ I hw) fun v s1 h1 => thn h1 fun u s2 h2 => thn h2 fun c s3 ⟨x, H1, I1, r1, q1⟩ => ?_) h1
  obtain ⟨d, rfl, q⟩ := q1
  cases r1
  exact wpAny_truthy_bool ⟨H1, I1, q⟩
theorem pt_val {e : Expr} {t : TE} (h : PE X e t) (he : ∀ whole, isTrue e X.env whole = (do let v ← whole; standAt e.pos; holding [v] (truthy v)) := by intro _; rfl) : PT X e (tB t) := by
  intro pins s σ H Q I hw
  refine isTrue_plain (thn (h pins s σ H _ I hw) fun v s1 ⟨x, H1, I1, r1, q1⟩ => ?_) (he _)
  obtain ⟨d, rfl, q⟩ := q1
  cases r1
  exact wpAny_truthy_bool ⟨H1, I1, q⟩
variable {tA tB' : TT} {rest : List Expr}
def tAnd (t u : TT) : TT := fun σ H Q => t σ H fun c H1 => if c = true then u σ H1 Q else Q false H1
def tOr (t u : TT) : TT := fun σ H Q => t σ H fun c H1 => if c = true then Q true H1 else u σ H1 Q
def tNot (t : TT) : TT := fun σ H Q => t σ H fun c H1 => Q (!c) H1
theorem pw_and1 (ha : PT X a tA) : PW X (.BoolOp .And [a] pos) tA := by
  intro wh pins s σ H Q I h
  refine isTrue_and (thn (ha pins s σ H Q I h) fun c s1 e => ?_)
  cases c with
  | true => exact isTrue_and_nil e
  | false => exact e
theorem pw_or1 (ha : PT X a tA) : PW X (.BoolOp .Or [a] pos) tA := by
  intro wh pins s σ H Q I h
  refine isTrue_or (thn (ha pins s σ H Q I h) fun c s1 e => ?_)
  cases c with
  | false => exact isTrue_or_nil e
  | true => exact e
theorem pw_and (ha : PT X a tA) (hb : PW X (.BoolOp .And (b :: rest) pos) tB') : PW X (.BoolOp .And (a :: b :: rest) pos) (tAnd tA tB') := by
  intro wh pins s σ H Q I h
  refine isTrue_and (thn (ha pins s σ H _ I h) fun c s1 ⟨H1, I1, q1⟩ => ?_)
  cases c with
  | true => exact hb wh pins s1 σ H1 Q I1 q1
  | false => exact ⟨H1, I1, q1⟩
theorem pw_or (ha : PT X a tA) (hb : PW X (.BoolOp .Or (b :: rest) pos) tB') : PW X (.BoolOp .Or (a :: b :: rest) pos) (tOr tA tB') := by
  intro wh pins s σ H Q I h
  refine isTrue_or (thn (ha pins s σ H _ I h) fun c s1 ⟨H1, I1, q1⟩ => ?_)
  cases c with
  | true => exact ⟨H1, I1, q1⟩
  | false => exact hb wh pins s1 σ H1 Q I1 q1
theorem pt_not (ha : PT X a tA) : PT X (.UnaryOp .Not a pos) (tNot tA) := by
  intro pins s σ H Q I h
  exact isTrue_not (ha pins s σ H (fun c H1 => Q (!c) H1) I h)
def tAndV (ta tb : TE) : TE := fun σ H Q => ta σ H fun x H1 => ∃ c, x = .bl c ∧ if c = true then tb σ H1 Q else Q (.bl false) H1
def tNotV (ta : TE) : TE := fun σ H Q => ta σ H fun x H1 => ∃ c, x = .bl c ∧ Q (.bl (!c)) H1
theorem pe_one {op} {t : TE} (h : PE X a t) : PE X (.BoolOp op [a] pos) t := fun pins s σ H Q I hw => BoolOp_one (h pins s σ H Q I hw)
theorem pe_and (ha : PE X a ta) (hb : PE X (.BoolOp .And (b :: rest) pos) tb) : PE X (.BoolOp .And (a :: b :: rest) pos) (tAndV ta tb) := by
  intro pins s σ H Q I h
  refine BoolOp_and (thn (ha pins s σ H _ I h) fun v s1 ⟨x, H1, I1, r1, q1⟩ => ?_)
  obtain ⟨c, rfl, q1⟩ := q1
  cases r1
  refine wpAny_truthy_bool ?_
  cases c with
  | true => exact hb pins s1 σ H1 Q I1 q1
  | false => exact ⟨.bl false, H1, I1, rfl, q1⟩
theorem pe_not (ha : PE X a ta) : PE X (.UnaryOp .Not a pos) (tNotV ta) := by
  intro pins s σ H Q I h
  refine UnaryOp_ (thn (ha pins s σ H _ I h) fun v s1 ⟨x, H1, I1, r1, q1⟩ => ?_)
  obtain ⟨c, rfl, q1⟩ := q1
  cases r1
  exact not_of (wpAny_truthy_bool ⟨.bl (!c), H1, I1, rfl, q1⟩)
end
end L2
namespace L2
open PySem PySem.Spec PyProof.Rows
def SqL (K : PySem.W.Frag) (H : Hp) (a : Addr) (xs : List V) : Prop :=
  Rd H a (.lst xs) ∨
    ∃ (o : Obj) (its : Array Value) (n : Nat), K.lookup a = some o ∧ o.cls = .type "list" ∧ o.dict = none ∧ o.data = .seq its n ∧ its.size ≤ sizeLine ∧ Vals xs its.toList
def SqT (K : PySem.W.Frag) (H : Hp) (a : Addr) (xs : List V) : Prop :=
  Rd H a (.tup xs) ∨
    ∃ (o : Obj) (its : Array Value) (n : Nat), K.lookup a = some o ∧ o.cls = .type "tuple" ∧ o.data = .seq its n ∧ its.size ≤ sizeLine ∧ Vals xs its.toList
def absV : Value → Option V
  | .none => some .non
  | .bool b => some (.bl b)
  | .int i _ => some (.int i)
  | .str x _ => some (.str x)
  | .bytes b _ => some (.byt b)
  | .float b _ => some (.flt b)
  | .ref a => some (.ref a)
  | .type n => some (.ty n)
  | _ => none
theorem RelV.abs {x : V} {u : Value} (r : RelV x u) : absV u = some x := by
  cases x with
  | non => cases r; rfl
  | bl _ => cases r; rfl
  | int _ => obtain ⟨t, rfl⟩ := r; rfl
  | str _ => obtain ⟨t, rfl⟩ := r; rfl
  | byt _ => obtain ⟨t, rfl⟩ := r; rfl
  | flt _ => obtain ⟨t, rfl⟩ := r; rfl
  | ref _ => cases r; rfl
  | ty _ => cases r; rfl
theorem RelV.inj {x y : V} {u : Value} (r : RelV x u) (q : RelV y u) : x = y := Option.some.inj (r.abs.symm.trans q.abs)
theorem Vals.inj : ∀ {xs ys : List V} {us : List Value}, Vals xs us → Vals ys us → xs = ys
  | _, _, _, .nil, .nil => rfl
  | _, _, _, .cons r t, .cons r' t' => by rw [r.inj r', Vals.inj t t']
section
variable {X : Cx} {pins : List (Addr × Obj)} {σ : St} {H : Hp} {s : Shared} {a : Addr} {xs ys : List V}
theorem SqL.of {K : PySem.W.Frag} (h : H a = some (.lst xs)) : SqL K H a xs := .inl (.inl h)
theorem SqT.of {K : PySem.W.Frag} (h : H a = some (.tup xs)) : SqT K H a xs := .inl (.inl h)
theorem Inv.list (I : Inv X pins σ H s) (h : SqL X.K H a xs) : ∃ its : List Value, Vals xs its ∧ PlainL s.heap a its.toArray ∧ xs.length ≤ sizeLine := by
  rcases h with h | ⟨o, its, n, hk, hc, hd, hs, hz, r⟩
  · obtain ⟨z, its, n, r, e⟩ := h.ok I.hok
    exact ⟨its, r, ⟨_, n, e, rfl, rfl, rfl⟩, z⟩
  · refine ⟨its.toList, r, ⟨o, n, I.kIn a o hk, hc, hd, by simpa using hs⟩, ?_⟩
    have e := r.length
    simp only [Array.length_toList] at e
    omega
theorem Inv.tuple (I : Inv X pins σ H s) (h : SqT X.K H a xs) : ∃ its : List Value, Vals xs its ∧ IsTup s.heap a its.toArray ∧ xs.length ≤ sizeLine := by
  rcases h with h | ⟨o, its, n, hk, hc, hs, hz, r⟩
  · obtain ⟨z, its, r, p⟩ := h.ok I.hok
    exact ⟨its, r, p, z⟩
  · refine ⟨its.toList, r, ⟨o, I.kIn a o hk, hc, n, by simpa using hs⟩, ?_⟩
    have e := r.length
    simp only [Array.length_toList] at e
    omega
theorem Inv.list_inj (I : Inv X pins σ H s) (h : SqL X.K H a xs) (h' : SqL X.K H a ys) : xs = ys := by
  obtain ⟨its, r, ⟨o, n, e, _, _, d⟩, _⟩ := I.list h
  obtain ⟨its', r', ⟨o', n', e', _, _, d'⟩, _⟩ := I.list h'
  rw [e] at e'; cases e'
  rw [d] at d'
  injection d' with d1 _
  have : its = its' := by simpa using congrArg Array.toList d1
  subst this
  exact r.inj r'
end
abbrev Cx.wish (X : Cx) (E : Value → Shared → Prop) : Cx := { X with xe := E }
abbrev Cx.nox (X : Cx) : Cx := X.wish fun _ _ => False
theorem Cx.Ok.wish {X : Cx} (ok : X.Ok) (E : Value → Shared → Prop) : (X.wish E).Ok :=
  ⟨ok.mod, ok.kind, ok.glob, ok.blt, ok.above, ok.inj, ok.has, ok.cab, ok.hd, ok.frames, ok.stk, ok.exf, ok.bs, ok.bsz, ok.noex, ok.exfs, ok.funs, ok.frf⟩
theorem Cx.Ok.unwish {X : Cx} {E : Value → Shared → Prop} (ok : (X.wish E).Ok) : X.Ok :=
  ⟨ok.mod, ok.kind, ok.glob, ok.blt, ok.above, ok.inj, ok.has, ok.cab, ok.hd, ok.frames, ok.stk, ok.exf, ok.bs, ok.bsz, ok.noex, ok.exfs, ok.funs, ok.frf⟩
section
variable {X : Cx} {pins : List (Addr × Obj)} {σ : St} {H : Hp} {s : Shared} {E : Value → Shared → Prop}
theorem Inv.wish (I : Inv X pins σ H s) (E : Value → Shared → Prop) : Inv (X.wish E) pins σ H s := ⟨I.ok.wish E, I.os, I.bare, I.base, I.loc, I.cell, I.free, I.freeC, I.pin, I.hok, I.len⟩
theorem Inv.unwish (I : Inv (X.wish E) pins σ H s) : Inv X pins σ H s := ⟨I.ok.unwish, I.os, I.bare, I.base, I.loc, I.cell, I.free, I.freeC, I.pin, I.hok, I.len⟩
theorem SP.unwish {D : Ends} {f : Flow} {s' : Shared} (h : SP (X.wish E) pins D f s') : SP X pins D f s' := by
  cases f with
  | next => obtain ⟨σ', H', I, q⟩ := h; exact ⟨σ', H', I.unwish, q⟩
  | brk => obtain ⟨σ', H', I, q⟩ := h; exact ⟨σ', H', I.unwish, q⟩
  | cont => obtain ⟨σ', H', I, q⟩ := h; exact ⟨σ', H', I.unwish, q⟩
  | ret u => obtain ⟨v, σ', H', I, r, q⟩ := h; exact ⟨v, σ', H', I.unwish, r, q⟩
theorem PE.nox {e : Expr} {t : TE} (h : PE X.nox e t) : PE X e t := fun pins s σ H Q I hw =>
  wpAny_mono (h pins s σ H Q (I.wish _) hw) (fun _ _ ⟨v, H', I', r, q⟩ => ⟨v, H', I'.unwish, r, q⟩) fun _ _ z => False.elim z
theorem PT.nox {e : Expr} {t : TT} (h : PT X.nox e t) : PT X e t := fun pins s σ H Q I hw =>
  wpAny_mono (h pins s σ H Q (I.wish _) hw) (fun _ _ ⟨H', I', q⟩ => ⟨H', I'.unwish, q⟩) fun _ _ z => False.elim z
theorem PSs.nox {st : List Stmt} {t : TS} (h : PSs X.nox st t) : PSs X st t := fun pins s σ H D I hw =>
  wpAny_mono (h pins s σ H D (I.wish _) hw) (fun _ _ q => q.unwish) fun _ _ z => False.elim z
end
section
variable {X : Cx} {st : Stmt} {rest : List Stmt} {t u : TS} {e : Expr} {te : TE} {pos : Pos}
def tNext : TS := fun D σ H => D.nx σ H
def tSeq (t u : TS) : TS := fun D σ H => t { D with nx := u D } σ H
theorem pss_nil : PSs X [] tNext := fun _ _ σ H _ I h => wpAny_execs_nil ⟨σ, H, I, h⟩
theorem pss_cons (h1 : PS X st t) (h2 : PSs X rest u) : PSs X (st :: rest) (tSeq t u) := by
  intro pins s σ H D I h
  refine wpAny_execs_cons (thn (h1 pins s σ H { D with nx := u D } I h) fun f s1 q => ?_)
  cases f with
  | next =>
    obtain ⟨σ', H', I', q⟩ := q
    exact h2 pins s1 σ' H' D I' q
  | ret v => exact q
  | brk => exact q
  | cont => exact q
theorem pss_one (h1 : PS X st t) : PSs X [st] t := by
  intro pins s σ H D I h
  refine wpAny_execs_cons (thn (h1 pins s σ H D I h) fun f s1 q => ?_)
  cases f with
  | next => exact wpAny_execs_nil q
  | ret v => exact q
  | brk => exact q
  | cont => exact q
theorem Inv.quiet {pins : List (Addr × Obj)} {σ : St} {H : Hp} {s : Shared} (I : Inv X pins σ H s) : interactive X.env = false := by simp [interactive, I.ok.kind]
def tDrop (te : TE) : TS := fun D σ H => te σ H fun _ H1 => D.nx σ H1
theorem ps_expr (he : PE X e te) (hs : swapsWith e none pos.line X.env = pure false := by rfl) : PS X (.Expr e pos) (tDrop te) := by
  intro pins s σ H D I h
  exact wpAny_Expr_any (thn (he pins s σ H _ I h) fun v s1 ⟨x, H1, I1, r1, q1⟩ => ⟨σ, H1, I1, q1⟩) I.quiet hs
def tRet (te : TE) : TS := fun D σ H => te σ H D.rt
theorem ps_ret (he : PE X e te) : PS X (.Return (some e) pos) (tRet te) := by
  intro pins s σ H D I h
  exact wpAny_Return_some (thn (he pins s σ H _ I h) fun v s1 ⟨x, H1, I1, r1, q1⟩ => ⟨x, σ, H1, I1, r1, q1⟩)
def tIfS (c : TT) (t u : TS) : TS := fun D σ H => c σ H fun b H1 => if b = true then t D σ H1 else u D σ H1
theorem ps_if {c : Expr} {a b : List Stmt} {tc : TT} (hc : PT X c tc) (ha : PSs X a t) (hb : PSs X b u) : PS X (.If c a b pos) (tIfS tc t u) := by
  intro pins s σ H D I h
  refine wpAny_If (thn (hc pins s σ H _ I h) fun d s1 ⟨H1, I1, q1⟩ => ?_)
  cases d with
  | true => exact ha pins s1 σ H1 D I1 q1
  | false => exact hb pins s1 σ H1 D I1 q1
end
abbrev TG := V → St → Hp → (St → Hp → Prop) → Prop
abbrev TGs := List V → St → Hp → (St → Hp → Prop) → Prop
def PG (X : Cx) (target : Expr) (t : TG) : Prop :=
  ∀ (pins : List (Addr × Obj)) (s : Shared) (σ : St) (H : Hp) (v : V) (u : Value) (Q : St → Hp → Prop), Inv X pins σ H s → RelV v u → t v σ H Q →
    wpAny (model X.prog X.w) X.A (assign target X.env u) (fun _ s' => ∃ σ' H', Inv X pins σ' H' s' ∧ Q σ' H') X.xe s
def PGs (X : Cx) (ts : List Expr) (t : TGs) : Prop :=
  ∀ (pins : List (Addr × Obj)) (s : Shared) (σ : St) (H : Hp) (vs : List V) (us : List Value) (Q : St → Hp → Prop), Inv X pins σ H s → Vals vs us → t vs σ H Q →
    wpAny (model X.prog X.w) X.A (assignInOrder ((assignEach ts X.env).map (·.2)) us) (fun _ s' => ∃ σ' H', Inv X pins σ' H' s' ∧ Q σ' H') X.xe s
section
variable {X : Cx} {pos : Pos}
def gName (i : Nat) : TG := fun v σ H Q => Q (σ.set i (some v)) H
theorem pg_name {i : Nat} {x : Str} (hN : X.N.Nodup) (hi : X.N[i]? = some x) (hx : Loc X.env.scope x) (hf : X.fn x = true ∨ X.env.scope.names.lookup x = some .local := by first | exact .inl rfl | exact .inr rfl | assumption) : PG X (.Name x pos) (gName i) := by
  intro pins s σ H v u Q I r h
  exact wpAny_assign_Name (store_ok I hN hi hx r (fun s' I' => ⟨_, H, I', h⟩) hf)
def gNil : TGs := fun vs σ H Q => vs = [] ∧ Q σ H
def gCons (t : TG) (u : TGs) : TGs := fun vs σ H Q => ∃ v r, vs = v :: r ∧ t v σ H fun σ' H' => u r σ' H' Q
theorem pgs_nil : PGs X [] gNil := by
  intro pins s σ H vs us Q I r h
  obtain ⟨e, h⟩ := h
  subst e
  cases r
  exact assignInOrder_nil ⟨σ, H, I, h⟩
theorem pgs_cons {e : Expr} {es : List Expr} {t : TG} {u : TGs} (h1 : PG X e t) (h2 : PGs X es u)
    (hs : (assignEach (e :: es) X.env).map (·.2) = assign e X.env :: (assignEach es X.env).map (·.2) := by rfl) : PGs X (e :: es) (gCons t u) := by
  intro pins s σ H vs us Q I r h
  obtain ⟨v, vr, e1, h⟩ := h
  subst e1
  cases r with
  | cons r rr =>
    rw [hs]
    refine assignInOrder_cons (thn (h1 pins s σ H _ _ _ I r h) fun _ s1 ⟨σ1, H1, I1, q1⟩ => ?_)
    exact h2 pins s1 σ1 H1 _ _ Q I1 rr q1
def gTup (K : PySem.W.Frag) (n : Nat) (t : TGs) : TG := fun v σ H Q => ∃ a xs, v = .ref a ∧ SqT K H a xs ∧ xs.length = n ∧ t xs σ H Q
theorem pg_tup {es : List Expr} {k : Nat} {t : TGs} {n : Nat} (hc : X.calm = true) (h : PGs X es t)
    (hn : (assignEach es X.env).length = n := by rfl) (hst : (assignEach es X.env).findIdx? (·.1) = none := by rfl) : PG X (.Tuple es k pos) (gTup X.K n t) := by
  intro pins s σ H v u Q I r hw
  obtain ⟨a, xs, e1, hq, hl, hw⟩ := hw
  subst e1
  cases r
  obtain ⟨its, rv, ht, hz⟩ := I.tuple hq
  refine assign_Tuple_tuple (I.ok.hd hc) ht (by simp [hn, ← hl, rv.length]) hst fun h' hx => ?_
  have I1 : Inv X pins σ H { s with heap := h' } := I.kept (t' := s.toks) fun b o e => hx b o (Nat.ne_of_lt (Heap.lt_size e)) e
  exact h pins _ σ H xs _ Q I1 (by simpa using rv) hw
def tAsg (te : TE) (g : TG) : TS := fun D σ H => te σ H fun x H1 => g x σ H1 D.nx
theorem ps_set {i : Nat} {x : Str} {e : Expr} {te : TE} {pos' : Pos} (hN : X.N.Nodup) (hi : X.N[i]? = some x) (hx : Loc X.env.scope x) (he : PE X e te) (hs : swapsWith e (some (.Name x pos')) pos.line X.env = pure false := by rfl) (hf : X.fn x = true ∨ X.env.scope.names.lookup x = some .local := by first | exact .inl rfl | exact .inr rfl | assumption) :
    PS X (.Assign [.Name x pos'] e pos) (tAsg te (gName i)) := by
  intro pins s σ H D I h
  refine wpAny_Assign_Name (thn (he pins s σ H _ I h) fun v s1 ⟨y, H1, I1, r1, q1⟩ => ?_) hs
  exact store_ok I1 hN hi hx r1 (fun s2 I2 => ⟨_, H1, I2, q1⟩) hf
end
section
variable {X : Cx} {pos : Pos}
end
structure It where
  go : Nat → Hp → Prop
  yld : Nat → Hp → V → Hp → Prop
  stop : Nat → Hp → Prop
def FpOk (X : Cx) (pins : List (Addr × Obj)) (H : Hp) (b : Addr) : Prop :=
  H b = none ∧ b ≠ X.env.locals ∧ b ∉ X.fs ∧ (b ∈ X.ex ∨ X.s₀.heap.objs.size ≤ b) ∧ (∀ x c, X.env.cells.lookup x = some c → c ≠ b) ∧ ∀ p ∈ X.pn ++ pins, p.1 ≠ b
theorem Inv.fpOk {X : Cx} {pins : List (Addr × Obj)} {σ : St} {H H' : Hp} {s : Shared} {b : Addr} (I : Inv X pins σ H s) (hb : s.heap.objs.size ≤ b) (hn : H' b = none) : FpOk X pins H' b := by
  refine ⟨hn, Nat.ne_of_gt (Nat.lt_of_lt_of_le I.lt hb), I.nofs hb, .inr (Nat.le_trans I.sz hb), fun x c e z => ?_, fun p hp z => ?_⟩
  · obtain ⟨v, q⟩ := I.cell x c e
    exact absurd (Nat.lt_of_lt_of_le q.lt (by rw [z]; exact hb)) (Nat.lt_irrefl _)
  · exact absurd (Nat.lt_of_lt_of_le (Heap.lt_size (I.pin p hp).1) (by rw [z]; exact hb)) (Nat.lt_irrefl _)
structure Turn (P : Program) (w : World) (K : PySem.W.Frag) (tg : Expr) (J : It) (fp : List Addr) (it : Addr) (tn : Nat → Heap → Prop) : Prop where
  mem : it ∈ fp
  obj : ∀ i h, tn i h → ∀ b ∈ fp, ∃ o, h.get? b = some o ∧ ∀ v, o.data ≠ .cell v
  keep : ∀ i h h', tn i h → (∀ b ∈ fp, ∀ o, h.get? b = some o → h'.get? b = some o) → tn i h'
  item : ∀ (X : Cx), X.prog = P → X.w = w → X.K = K → X.calm = true → ∀ (i : Nat) (pins : List (Addr × Obj)) (s : Shared) (σ : St) (H : Hp) (E : Value → Shared → Prop), Inv X pins σ H s → (∀ b ∈ fp, FpOk X pins H b) → tn i s.heap → J.go i H →
    wpAny (model P w) X.A (pyNext (.ref it)) (fun r s1 => ∃ u, r = some u ∧
      wpAny (model P w) X.A (letOwnedTupleGo tg (.ref it) u) (fun _ s2 => ∃ x H', Inv X pins σ H' s2 ∧ RelV x u ∧ J.yld i H x H' ∧ tn (i + 1) s2.heap ∧ ∀ b ∈ fp, H' b = none) E s1) E s
  done : ∀ (X : Cx), X.prog = P → X.w = w → X.K = K → X.calm = true → ∀ (i : Nat) (pins : List (Addr × Obj)) (s : Shared) (σ : St) (H : Hp) (E : Value → Shared → Prop), Inv X pins σ H s → (∀ b ∈ fp, FpOk X pins H b) → tn i s.heap → J.stop i H →
    wpAny (model P w) X.A (pyNext (.ref it)) (fun r s1 => r = none ∧ Inv X pins σ H s1) E s
  self : ∀ (A : Around) (i : Nat) (s : Shared) (Q : Value → Shared → Prop) (E : Value → Shared → Prop), tn i s.heap → Q (.ref it) s → wpAny (model P w) A (pyIter (.ref it)) Q E s
abbrev TI := St → Hp → (It → Hp → Prop) → Prop
def PIE (X : Cx) (pins : List (Addr × Obj)) (σ : St) (tg : Expr) (R : It → Hp → Prop) (itv : Value) (s2 : Shared) : Prop :=
  ∃ (it : Addr) (fp : List Addr) (tn : Nat → Heap → Prop) (J : It) (H' : Hp), itv = .ref it ∧ Inv X pins σ H' s2 ∧ Turn X.prog X.w X.K tg J fp it tn ∧ tn 0 s2.heap ∧ (∀ b ∈ fp, FpOk X pins H' b) ∧ R J H'
def PI (X : Cx) (tg iter : Expr) (wi : TI) : Prop :=
  ∀ (pins : List (Addr × Obj)) (s : Shared) (σ : St) (H : Hp) (R : It → Hp → Prop), Inv X pins σ H s → wi σ H R →
    wpAny (model X.prog X.w) X.A (eval iter X.env) (fun v s1 => wpAny (model X.prog X.w) X.A (pyIter v) (PIE X pins σ tg R) X.xe s1) X.xe s
theorem go_of {M : Model} {A : Around} {E : Value → Shared → Prop} {s : Shared} {tg : Expr} {it : Addr} {u : Value} {o : Obj} {n : String} {vs : Array Value} {Q : Unit → Shared → Prop} (ho : s.heap.get? it = some o) (hc : o.cls = .type n) (hd : o.data = .fields vs)
    (hn : ["enumerate", "zip", "dict_itemiterator", "dict_reverseitemiterator", "odict_iterator", "itertools.zip_longest", "itertools.pairwise"].contains n = false) (hQ : Q () s) : wpAny M A (letOwnedTupleGo tg (.ref it) u) Q E s := by
  unfold letOwnedTupleGo
  cases tg <;> first
    | exact wpAny_pure hQ
    | (cases u <;> first
        | exact wpAny_pure hQ
        | (refine wpAny_bind (wpAny_load ho ?_)
           rw [hc, hd]
           show wpAny M A (if (["enumerate", "zip", "dict_itemiterator", "dict_reverseitemiterator", "odict_iterator", "itertools.zip_longest", "itertools.pairwise"].contains n && vs[0]? == some (rawInt _)) = true then _ else _) Q E s
           rw [if_neg (by intro h; rw [hn, Bool.false_and] at h; cases h)]
           exact wpAny_pure hQ))
def Itl (K : PySem.W.Frag) (a : Addr) : It :=
  ⟨fun i H => ∃ xs x, SqL K H a xs ∧ xs[i]? = some x, fun i H x H' => H' = H ∧ ∀ xs, SqL K H a xs → xs[i]? = some x, fun i H => ∃ xs, SqL K H a xs ∧ xs.length ≤ i⟩
def Itr (lo : Int) (n : Nat) : It := ⟨fun i _ => i < n, fun i H x H' => H' = H ∧ x = .int (lo + i), fun i _ => n ≤ i⟩
theorem turn_list {P : Program} {w : World} {K : PySem.W.Frag} {tg : Expr} (a it : Addr) : Turn P w K tg (Itl K a) [it] it (fun i h => h.IsListIter it a i) where
  mem := by simp
  obj := fun i h st b hb => by
    have e : b = it := by simpa using hb
    subst e
    obtain ⟨o, e, c, d⟩ := st
    exact ⟨o, e, fun v z => by rw [d] at z; cases z⟩
  keep := fun i h h' st k => st.at fun o e => k it (by simp) o e
  item := by
    intro X hP hw hK hc i pins s σ H E I hf st hg
    subst hP hw hK
    obtain ⟨xs, x, hq, hx⟩ := hg
    obtain ⟨its, rv, p, hz⟩ := I.list hq
    obtain ⟨u, hu, ru⟩ := rv.get hx
    obtain ⟨f0, f1, f2, f3, f4, f5⟩ := hf it (by simp)
    refine wpAny_pyNext_list_item st p.isList (x := u) (by simpa using hu) fun h' st' sb => ?_
    have I1 : Inv X pins σ H { s with heap := h' } := I.turned (t' := s.toks) (fun b o hb e => (sb.2 b hb).trans e) f0 f1 f3 f4 f5
    obtain ⟨o, e, c, d⟩ := id st'
    exact ⟨u, rfl, go_of (s := { s with heap := h' }) e c d (by decide) ⟨x, H, I1, ru, ⟨rfl, fun ys hy => by rw [I.list_inj hy hq]; exact hx⟩, st', fun b hb => (hf b hb).1⟩⟩
  done := by
    intro X hP hw hK hc i pins s σ H E I hf st hg
    subst hP hw hK
    obtain ⟨xs, hq, hx⟩ := hg
    obtain ⟨its, rv, p, hz⟩ := I.list hq
    obtain ⟨f0, f1, f2, f3, f4, f5⟩ := hf it (by simp)
    have hl := rv.length
    exact wpAny_pyNext_list_end (I.ok.hd hc) st p.isList (by simp; omega) fun h' eb => ⟨rfl, I.turned (t' := s.toks) (fun b o hb e => eb b o hb e) f0 f1 f3 f4 f5⟩
  self := fun _ _ _ _ _ st h => wpAny_pyIter_listiter st h
theorem turn_range {P : Program} {w : World} {K : PySem.W.Frag} {tg : Expr} (it : Addr) (lo : Int) (n : Nat) : Turn P w K tg (Itr lo n) [it] it (fun i h => IsRangeIter h it (lo + (i : Nat) * 1) ((n : Int) - (i : Nat)) 1) where
  mem := by simp
  obj := fun i h st b hb => by
    have e : b = it := by simpa using hb
    subst e
    exact ⟨_, st, fun v z => by
      have z' : Data.fields _ = Data.cell v := z
      cases z'⟩
  keep := fun i h h' st k => k it (by simp) _ st
  item := by
    intro X hP hw hK hc i pins s σ H E I hf st hg
    subst hP hw hK
    obtain ⟨f0, f1, f2, f3, f4, f5⟩ := hf it (by simp)
    have W := Walks.range (prog := X.prog) (w := X.w) (I.ok.hd hc) it lo 1 n
    refine W.item i s _ _ hg st fun v h' tk hv st' kk => ?_
    obtain ⟨t, rfl⟩ := hv
    have I1 : Inv X pins σ H { s with heap := h', toks := tk } := I.turned (fun b o hb e => kk b o (by simpa using hb) e) f0 f1 f3 f4 f5
    refine ⟨_, rfl, go_of (s := { s with heap := h', toks := tk }) (n := "range_iterator") st' rfl rfl (by decide) ⟨.int (lo + i), H, I1, ⟨t, ?_⟩, ⟨rfl, rfl⟩, st', fun b hb => (hf b hb).1⟩⟩
    rw [Int.mul_one]
  done := by
    intro X hP hw hK hc i pins s σ H E I hf st hg
    subst hP hw hK
    obtain ⟨f0, f1, f2, f3, f4, f5⟩ := hf it (by simp)
    exact wpAny_pyNext_range_end (I.ok.hd hc) st (by have : n ≤ i := hg; omega) fun h' eb => ⟨rfl, I.turned (t' := s.toks) (fun b o hb e => eb b o hb e) f0 f1 f3 f4 f5⟩
  self := fun _ _ _ _ _ st h => wpAny_pyIter_rangeiter st h
end L2
namespace L2
open PySem PySem.Spec PyProof.Rows
section
variable {X : Cx} {tg : Expr}
def iList (K : PySem.W.Frag) (tl : TE) : TI := fun σ H R => tl σ H fun x H1 => ∃ a, x = .ref a ∧ (∃ xs, SqL K H1 a xs) ∧ R (Itl K a) H1
theorem pi_list {l : Expr} {tl : TE} (hl : PE X l tl) : PI X tg l (iList X.K tl) := by
  intro pins s σ H R I h
  refine thn (hl pins s σ H _ I h) fun v s1 ⟨x, H1, I1, r1, q1⟩ => ?_
  obtain ⟨a, e, ⟨xs, hq⟩, q⟩ := q1
  subst e
  cases r1
  obtain ⟨its, rv, p, hz⟩ := I1.list hq
  refine wpAny_pyIter_list p.isList ?_
  refine ⟨s1.heap.objs.size, [s1.heap.objs.size], _, _, H1, rfl, I1.kept (t' := s1.toks) fun b o e => Heap.get?_push_of_some _ e, turn_list a _, ⟨_, Heap.get?_push_size _ rfl, rfl, rfl⟩, fun b hb => ?_, q⟩
  have e : b = s1.heap.objs.size := by simpa using hb
  subst e
  exact I1.fpOk (Nat.le_refl _) (I1.hok.fresh (Nat.le_refl _))
theorem range_it {pins : List (Addr × Obj)} {σ : St} {H : Hp} {s : Shared} {R : It → Hp → Prop} {E : Value → Shared → Prop} {lo hi : Int} {t u v : Tok} {tk : Nat} (I : Inv X pins σ H s) (h1 : -(2 ^ 62) ≤ lo) (h2 : lo < 2 ^ 62) (h3 : -(2 ^ 62) ≤ hi) (h4 : hi < 2 ^ 62)
    (q : R (Itr lo (hi - lo).toNat) H) : wpAny (model X.prog X.w) X.A (pyIter (.ref s.heap.objs.size)) (PIE X pins σ tg R) E { s with heap := s.heap.push { cls := .type "range", data := .fields #[.int lo t, .int hi u, .int 1 v] }, toks := tk } := by
  refine wpAny_pyIter_range (IsRange.new ..) (small_one h1 h2 h3 h4) ?_
  have I1 : Inv X pins σ H { s with heap := s.heap.push { cls := .type "range", data := .fields #[.int lo t, .int hi u, .int 1 v] }, toks := tk } := I.kept fun b o e => Heap.get?_push_of_some _ e
  refine ⟨(s.heap.push { cls := .type "range", data := .fields #[.int lo t, .int hi u, .int 1 v] }).objs.size, [(s.heap.push { cls := .type "range", data := .fields #[.int lo t, .int hi u, .int 1 v] }).objs.size], _, _, H, rfl,
    I1.kept (t' := tk) fun b o e => Heap.get?_push_of_some _ e, turn_range _ lo (hi - lo).toNat, ?_, fun b hb => ?_, q⟩
  · have e1 : lo + ((0 : Nat) : Int) * 1 = lo := by simp
    have e2 : (((hi - lo).toNat : Nat) : Int) - ((0 : Nat) : Int) = Builtin.Range.rangeSize lo hi 1 := by rw [rangeSize_one]; split <;> omega
    show IsRangeIter _ _ (lo + ((0 : Nat) : Int) * 1) ((((hi - lo).toNat : Nat) : Int) - ((0 : Nat) : Int)) 1
    rw [e1, e2]
    exact Heap.get?_push_size _ rfl
  · have e : b = (s.heap.push { cls := .type "range", data := .fields #[.int lo t, .int hi u, .int 1 v] }).objs.size := by simpa using hb
    subst e
    exact I1.fpOk (Nat.le_refl _) (I1.hok.fresh (Nat.le_refl _))
def iRng1 (ta : TA) : TI := fun σ H R => ta σ H fun vs H1 => ∃ j : Int, vs = [.int j] ∧ -(2 ^ 62) ≤ j ∧ j < 2 ^ 62 ∧ R (Itr 0 j.toNat) H1
def iRng2 (ta : TA) : TI := fun σ H R => ta σ H fun vs H1 => ∃ i j : Int, vs = [.int i, .int j] ∧ (-(2 ^ 62) ≤ i ∧ i < 2 ^ 62 ∧ -(2 ^ 62) ≤ j ∧ j < 2 ^ 62) ∧ R (Itr i (j - i).toNat) H1
theorem pi_range1 {a : Expr} {ta : TA} {p pos : Pos} (hg : Gl X "range") (hm : X.mg "range" = none) (ha : PA X [a] ta) (hs : starEach [a] X.env = [(false, eval a X.env)] := by rfl) : PI X tg (.Call (.Name "range" p) [a] [] pos) (iRng1 ta) := by
  intro pins s σ H R I h
  refine Call_ (ld_blt I hg hm boot_range (PyProof.Rows.callWith_type1 (thn (ha pos pins s σ H _ I h) fun us s1 ⟨vs, H1, I1, r1, q1⟩ => ?_) hs rfl))
  obtain ⟨j, e, q1, q2, q⟩ := q1
  subst e
  cases r1 with
  | cons r rr =>
    cases rr
    obtain ⟨t, rfl⟩ := r
    exact call_range_1 (range_it I1 (by omega) (by omega) q1 q2 (by simpa using q))
theorem pi_range2 {a b : Expr} {ta : TA} {p pos : Pos} (hg : Gl X "range") (hm : X.mg "range" = none) (ha : PA X [a, b] ta) (hs : starEach [a, b] X.env = [(false, eval a X.env), (false, eval b X.env)] := by rfl) (hs2 : starEach [b] X.env = [(false, eval b X.env)] := by rfl) :
    PI X tg (.Call (.Name "range" p) [a, b] [] pos) (iRng2 ta) := by
  intro pins s σ H R I h
  refine Call_ (ld_blt I hg hm boot_range (PyProof.Rows.callWith_type1 (thn (ha pos pins s σ H _ I h) fun us s1 ⟨vs, H1, I1, r1, q1⟩ => ?_) (by rw [hs, hs2]) (by rw [hs2]; rfl)))
  obtain ⟨i, j, e, ⟨q1, q2, q3, q4⟩, q⟩ := q1
  subst e
  cases r1 with
  | cons r rr =>
    cases rr with
    | cons r' rr =>
      cases rr
      obtain ⟨t, rfl⟩ := r
      obtain ⟨t', rfl⟩ := r'
      exact call_range_2 (range_it I1 q1 q2 q3 q4 q)
def tFor (wi : TI) (g : TG) (tb : TS) : TS := fun D σ H => wi σ H fun J H1 => ∃ W : Nat → Nat → St → Hp → Prop, (∃ m, W 0 m σ H1) ∧ ∀ i m σ H, W i m σ H →
  (J.stop i H ∧ D.nx σ H) ∨ (J.go i H ∧ ∃ N : St → Hp → Prop, (∀ σ' H', N σ' H' → ∃ m', m' < m ∧ W (i + 1) m' σ' H') ∧ ∀ x H', J.yld i H x H' → g x σ H' fun σ2 H2 => tb { D with nx := N, ct := N, bk := D.nx } σ2 H2)
def pinsAt (fp : List Addr) (h : Heap) : List (Addr × Obj) := fp.filterMap fun b => (h.get? b).map fun o => (b, o)
theorem mem_pinsAt {fp : List Addr} {h : Heap} {b : Addr} {o : Obj} (hb : b ∈ fp) (e : h.get? b = some o) : (b, o) ∈ pinsAt fp h := List.mem_filterMap.mpr ⟨b, hb, by rw [e]; rfl⟩
theorem of_pinsAt {fp : List Addr} {h : Heap} {p : Addr × Obj} (hp : p ∈ pinsAt fp h) : p.1 ∈ fp ∧ h.get? p.1 = some p.2 := by
  obtain ⟨b, hb, e⟩ := List.mem_filterMap.mp hp
  cases q : h.get? b with
  | none => rw [q] at e; cases e
  | some o =>
    rw [q] at e
    have e' : (b, o) = p := Option.some.inj e
    subst e'
    exact ⟨hb, q⟩
theorem Inv.pinned {pins : List (Addr × Obj)} {σ : St} {H : Hp} {s : Shared} {fp : List Addr} (I : Inv X pins σ H s) (hf : ∀ b ∈ fp, FpOk X pins H b) (ho : ∀ b ∈ fp, ∃ o, s.heap.get? b = some o ∧ ∀ v, o.data ≠ .cell v) : Inv X (pins ++ pinsAt fp s.heap) σ H s :=
  I.pins_of fun p hp => (List.mem_append.mp hp).elim (fun z => I.pin p (List.mem_append_right _ z)) fun z => by
    obtain ⟨hb, e⟩ := of_pinsAt z
    obtain ⟨f0, f1, f2, _⟩ := hf p.1 hb
    obtain ⟨o, e', d⟩ := ho p.1 hb
    rw [e] at e'; cases e'
    exact ⟨e, f0, f1, f2, d⟩
theorem Inv.unpinned {pins pl : List (Addr × Obj)} {σ : St} {H : Hp} {s : Shared} (I : Inv X (pins ++ pl) σ H s) : Inv X pins σ H s := I.pins_of fun p hp => I.pin p (List.mem_append_right _ (List.mem_append_left _ hp))
theorem ps_for {iter : Expr} {body : List Stmt} {wi : TI} {g : TG} {tb : TS} {pos : Pos} (hp : PassesOwn (model X.prog X.w) X.A X.env X.xe) (hc : X.calm = true) (hi : PI X tg iter wi) (hg : PG X tg g) (hb : PSs X body tb)
    (hs : ∀ x, foldedSetIterable iter X.env x = pure x := by intro _; rfl) : PS X (.For tg iter body [] pos) (tFor wi g tb) := by
  intro pins s σ H D I h
  refine wpAny_For (thn (hi pins s σ H _ I h) fun v s1 h1 => thn h1 fun itv s2 h2 => ?_) hs
  obtain ⟨it, fp, tn, J, H2, e, I2, T, st2, f2, W, ⟨m0, w0⟩, turn⟩ := h2
  subst e
  -- what stays true of the iterator's objects through the loop
  have stat : ∀ {H' : Hp}, (∀ b ∈ fp, H' b = none) → ∀ b ∈ fp, FpOk X pins H' b := fun hn b hb => ⟨hn b hb, (f2 b hb).2⟩
  refine codeAny_forLoop_any (fun n s' => ∃ i σ' H', Inv X pins σ' H' s' ∧ tn i s'.heap ∧ (∀ b ∈ fp, H' b = none) ∧ W i n σ' H') ?_ m0 ⟨0, σ, H2, I2, st2, fun b hb => (f2 b hb).1, w0⟩
  rintro n s3 ⟨i, σ3, H3, I3, st3, fr3, w3⟩
  rcases turn i n σ3 H3 w3 with ⟨stop, qn⟩ | ⟨go, N, hN, step⟩
  · refine wpAny_passesOwn hp (thn (T.done X rfl rfl rfl hc i pins s3 σ3 H3 X.xe I3 (stat fr3) st3 stop) fun r s4 ⟨hr, I4⟩ => ?_)
    subst hr
    exact wpAny_execs_nil ⟨σ3, H3, I4, qn⟩
  · refine wpAny_passesOwn hp (thn (T.item X rfl rfl rfl hc i pins s3 σ3 H3 X.xe I3 (stat fr3) st3 go) fun r s4 ⟨u, hr, h4⟩ => ?_)
    subst hr
    refine wpAny_passesOwn hp (thn h4 fun _ s5 ⟨x, H5, I5, r5, y5, st5, fr5⟩ => ?_)
    have I5' := I5.pinned (stat fr5) (T.obj _ _ st5)
    refine wpAny_passesOwn hp (thn (hg _ s5 σ3 H5 x u _ I5' r5 (step x H5 y5)) fun _ s6 ⟨σ6, H6, I6, q6⟩ => ?_)
    refine wpAny_passesOwn hp (thn (hb _ s6 σ6 H6 _ I6 q6) fun f s7 q7 => ?_)
    have again : ∀ {σ7 : St} {H7 : Hp}, Inv X (pins ++ pinsAt fp s5.heap) σ7 H7 s7 → N σ7 H7 → ∃ m, m < n ∧ ∃ i σ' H', Inv X pins σ' H' s7 ∧ tn i s7.heap ∧ (∀ b ∈ fp, H' b = none) ∧ W i m σ' H' := fun {σ7 H7} I7 n7 => by
      obtain ⟨m', hm, w7⟩ := hN σ7 H7 n7
      refine ⟨m', hm, i + 1, σ7, H7, I7.unpinned, T.keep _ _ _ st5 fun b hb o e => (I7.pin (b, o) (List.mem_append_right _ (List.mem_append_right _ (mem_pinsAt hb e)))).1, fun b hb => ?_, w7⟩
      obtain ⟨o, e, d⟩ := T.obj _ _ st5 b hb
      exact (I7.pin (b, o) (List.mem_append_right _ (List.mem_append_right _ (mem_pinsAt hb e)))).2.1
    cases f with
    | next => obtain ⟨σ7, H7, I7, n7⟩ := q7; exact again I7 n7
    | cont => obtain ⟨σ7, H7, I7, n7⟩ := q7; exact again I7 n7
    | brk => obtain ⟨σ7, H7, I7, q7⟩ := q7; exact ⟨σ7, H7, I7.unpinned, q7⟩
    | ret v => obtain ⟨x7, σ7, H7, I7, r7, q7⟩ := q7; exact ⟨x7, σ7, H7, I7.unpinned, r7, q7⟩
end
end L2
namespace L2
open PySem PySem.Spec PyProof.Rows
abbrev R2 := V → V → Hp → VK → Prop
def OpR (X : Cx) (f : Value → Value → Sem Value) (r : R2) : Prop :=
  ∀ (pins : List (Addr × Obj)) (s : Shared) (σ : St) (H : Hp) (x y : V) (v u : Value) (Q : VK), Inv X pins σ H s → RelV x v → RelV y u → r x y H Q →
    wpAny (model X.prog X.w) X.A (f v u) (EP X pins σ Q) X.xe s
def UnR (X : Cx) (f : Value → Sem Value) (r : V → Hp → VK → Prop) : Prop :=
  ∀ (pins : List (Addr × Obj)) (s : Shared) (σ : St) (H : Hp) (x : V) (v : Value) (Q : VK), Inv X pins σ H s → RelV x v → r x H Q →
    wpAny (model X.prog X.w) X.A (f v) (EP X pins σ Q) X.xe s
def CallR (X : Cx) (f : Value) (r : List V → Hp → VK → Prop) : Prop :=
  ∀ (pins : List (Addr × Obj)) (s : Shared) (σ : St) (H : Hp) (xs : List V) (us : List Value) (Q : VK), Inv X pins σ H s → Vals xs us → r xs H Q →
    wpAny (model X.prog X.w) X.A (call f us) (EP X pins σ Q) X.xe s
def TruR (X : Cx) (r : V → Hp → (Bool → Hp → Prop) → Prop) : Prop :=
  ∀ (pins : List (Addr × Obj)) (s : Shared) (σ : St) (H : Hp) (x : V) (v : Value) (Q : Bool → Hp → Prop), Inv X pins σ H s → RelV x v → r x H Q →
    wpAny (model X.prog X.w) X.A (truthy v) (TP X pins σ Q) X.xe s
def tOp (r : R2) (ta tb : TE) : TE := fun σ H Q => ta σ H fun x H1 => tb σ H1 fun y H2 => r x y H2 Q
def tUn (r : V → Hp → VK → Prop) (ta : TE) : TE := fun σ H Q => ta σ H fun x H1 => r x H1 Q
def rI (C : Int → Int → Prop) (g : Int → Int → V) : R2 := fun x y H Q => ∃ i j, x = .int i ∧ y = .int j ∧ C i j ∧ Q (g i j) H
def rI0 (g : Int → Int → V) : R2 := fun x y H Q => ∃ i j, x = .int i ∧ y = .int j ∧ Q (g i j) H
def rU (g : Int → V) : V → Hp → VK → Prop := fun x H Q => ∃ i, x = .int i ∧ Q (g i) H
section
variable {X : Cx} {a b c : Expr} {ta tb tc : TE} {pos : Pos}
theorem binT (ha : PE X a ta) (hb : PE X b tb) {pins : List (Addr × Obj)} {s : Shared} {σ : St} {H : Hp} {R : V → V → Hp → Prop} (I : Inv X pins σ H s)
    (h : ta σ H fun x H1 => tb σ H1 fun y H2 => R x y H2) {Q : Value → Shared → Prop} {f : Value → Value → Sem Value}
    (hf : ∀ v u s2 x y H2, Inv X pins σ H2 s2 → RelV x v → RelV y u → R x y H2 → wpAny (model X.prog X.w) X.A (f v u) Q X.xe s2) :
    wpAny (model X.prog X.w) X.A (eval a X.env) (fun v s₁ => wpAny (model X.prog X.w) X.A (eval b X.env) (fun u s₂ => wpAny (model X.prog X.w) X.A (f v u) Q X.xe s₂) X.xe s₁) X.xe s := by
  refine thn (ha pins s σ H _ I h) fun v s1 ⟨x, H1, I1, r1, q1⟩ => ?_
  refine thn (hb pins s1 σ H1 _ I1 q1) fun u s2 ⟨y, H2, I2, r2, q2⟩ => ?_
  exact hf v u s2 x y H2 I2 r1 r2 q2
theorem pe_op {op : Operator} {r : R2} (ho : OpR X (binaryOp op) r) (ha : PE X a ta) (hb : PE X b tb) : PE X (.BinOp a op b pos) (tOp r ta tb) := by
  intro pins s σ H Q I h
  exact wpAny_BinOp (binT ha hb I h fun v u s2 x y H2 I2 rx ry q => ho pins s2 σ H2 x y v u Q I2 rx ry q)
theorem pe_un {op : UnaryOp} {r : V → Hp → VK → Prop} (ho : UnR X (unaryOp op) r) (ha : PE X a ta) : PE X (.UnaryOp op a pos) (tUn r ta) := by
  intro pins s σ H Q I h
  exact UnaryOp_ (thn (ha pins s σ H _ I h) fun v s1 ⟨x, H1, I1, r1, q1⟩ => ho pins s1 σ H1 x v Q I1 r1 q1)
theorem opI {f : Value → Value → Sem Value} {C : Int → Int → Prop} {g : Int → Int → Int}
    (rule : ∀ (i j : Int) (t u : Tok) (s : Shared) (Q : Value → Shared → Prop) (E : Value → Shared → Prop), C i j → Q (.int (g i j) s.toks) { s with toks := s.toks + 1 } → wpAny (model X.prog X.w) X.A (f (.int i t) (.int j u)) Q E s) :
    OpR X f (rI C fun i j => .int (g i j)) := by
  intro pins s σ H x y v u Q I rx ry h
  obtain ⟨i, j, rfl, rfl, hc, q⟩ := h
  obtain ⟨t, rfl⟩ := rx
  obtain ⟨t', rfl⟩ := ry
  exact rule i j t t' s _ _ hc ⟨.int (g i j), H, I.tok _, ⟨_, rfl⟩, q⟩
theorem opI0 {f : Value → Value → Sem Value} {g : Int → Int → Int}
    (rule : ∀ (i j : Int) (t u : Tok) (s : Shared) (Q : Value → Shared → Prop) (E : Value → Shared → Prop), Q (.int (g i j) s.toks) { s with toks := s.toks + 1 } → wpAny (model X.prog X.w) X.A (f (.int i t) (.int j u)) Q E s) :
    OpR X f (rI0 fun i j => .int (g i j)) := by
  intro pins s σ H x y v u Q I rx ry h
  obtain ⟨i, j, rfl, rfl, q⟩ := h
  obtain ⟨t, rfl⟩ := rx
  obtain ⟨t', rfl⟩ := ry
  exact rule i j t t' s _ _ ⟨.int (g i j), H, I.tok _, ⟨_, rfl⟩, q⟩
theorem opB0 {f : Value → Value → Sem Value} {g : Int → Int → Bool}
    (rule : ∀ (i j : Int) (t u : Tok) (s : Shared) (Q : Value → Shared → Prop) (E : Value → Shared → Prop), Q (.bool (g i j)) s → wpAny (model X.prog X.w) X.A (f (.int i t) (.int j u)) Q E s) :
    OpR X f (rI0 fun i j => .bl (g i j)) := by
  intro pins s σ H x y v u Q I rx ry h
  obtain ⟨i, j, rfl, rfl, q⟩ := h
  obtain ⟨t, rfl⟩ := rx
  obtain ⟨t', rfl⟩ := ry
  exact rule i j t t' s _ _ ⟨.bl (g i j), H, I, rfl, q⟩
def CDiv (i j : Int) : Prop := 0 < j ∧ j < 1073741824
def CMul (i j : Int) : Prop := (-(2 ^ 64) < i ∧ i < 2 ^ 64) ∨ (-(2 ^ 64) < j ∧ j < 2 ^ 64)
theorem CMul.ok {i j : Int} (h : CMul i j) : IntMulOk i j := by
  rcases h with ⟨h1, h2⟩ | ⟨h1, h2⟩
  · exact .of_left (intBits_le_64 h1 h2)
  · exact .of_right (intBits_le_64 h1 h2)
theorem op_add : OpR X (binaryOp .Add) (rI0 fun i j => .int (i + j)) := opI0 fun _ _ _ _ _ _ _ q => add_int q
theorem op_sub : OpR X (binaryOp .Sub) (rI0 fun i j => .int (i - j)) := opI0 fun _ _ _ _ _ _ _ q => sub_int q
theorem op_mul : OpR X (binaryOp .Mult) (rI CMul fun i j => .int (i * j)) := opI fun _ _ _ _ _ _ _ hc q => mul_int q hc.ok
theorem op_fdiv : OpR X (binaryOp .FloorDiv) (rI CDiv fun i j => .int (i / j)) := opI fun i j _ _ _ _ _ hc q => by
  have h1 : (0 : Int) < j := hc.1
  have h2 : j < 1073741824 := hc.2
  exact floordiv_int (by omega) (by rw [Int.fdiv_eq_ediv_of_nonneg i (by omega)]; exact q) (.inl (PyProof.noPylong_small (by omega)))
theorem op_mod : OpR X (binaryOp .Mod) (rI (fun _ j => 0 < j) fun i j => .int (i % j)) := opI fun i j _ _ _ _ _ hc q => by
  have h1 : (0 : Int) < j := hc
  exact mod_int' (by omega) (by rw [Int.fmod_eq_emod_of_nonneg i (by omega)]; exact q)
theorem unI {f : Value → Sem Value} {g : Int → Int}
    (rule : ∀ (i : Int) (t : Tok) (s : Shared) (Q : Value → Shared → Prop) (E : Value → Shared → Prop), Q (.int (g i) s.toks) { s with toks := s.toks + 1 } → wpAny (model X.prog X.w) X.A (f (.int i t)) Q E s) :
    UnR X f (rU fun i => .int (g i)) := by
  intro pins s σ H x v Q I rx h
  obtain ⟨i, rfl, q⟩ := h
  obtain ⟨t, rfl⟩ := rx
  exact rule i t s _ _ ⟨.int (g i), H, I.tok _, ⟨_, rfl⟩, q⟩
theorem un_neg : UnR X (unaryOp .USub) (rU fun i => .int (-i)) := unI fun _ _ _ _ _ q => neg_int q
end
def scal : V → V → Bool
  | .non, .non => true | .non, .int _ => true | .int _, .non => true | .non, .bl _ => true | .bl _, .non => true | .non, .str _ => true | .str _, .non => true
  | .int _, .int _ => true | .bl _, .bl _ => true | .str _, .str _ => true | .byt _, .byt _ => true
  | .int _, .str _ => true | .str _, .int _ => true | .bl _, .str _ => true | .str _, .bl _ => true
  | _, _ => false
def rEq : R2 := fun x y H Q => scal x y = true ∧ Q (.bl (decide (x = y))) H
def rNe : R2 := fun x y H Q => scal x y = true ∧ Q (.bl (!decide (x = y))) H
theorem dec_int {i j : Int} : decide (V.int i = V.int j) = (i == j) := by
  rw [Bool.eq_iff_iff]
  simp
theorem dec_bl {i j : Bool} : decide (V.bl i = V.bl j) = (i == j) := by
  rw [Bool.eq_iff_iff]
  simp
theorem dec_str {i j : Str} : decide (V.str i = V.str j) = (i == j) := by
  rw [Bool.eq_iff_iff]
  simp
theorem dec_byt {i j : Array UInt8} : decide (V.byt i = V.byt j) = (i.toList == j.toList) := by
  rw [Bool.eq_iff_iff]
  cases i
  cases j
  simp
section
variable {X : Cx} {a b c : Expr} {ta tb tc : TE} {pos : Pos}
theorem fin_bl {pins : List (Addr × Obj)} {σ : St} {H : Hp} {s : Shared} {Q : VK} {k k' : Bool} (I : Inv X pins σ H s) (q : Q (.bl k) H) (e : k = k') : EP X pins σ Q (.bool k') s := by
  subst e
  exact ⟨.bl k, H, I, rfl, q⟩
theorem op_eq : OpR X (compareOp .Eq) rEq := by
  intro pins s σ H x y v u Q I rx ry h
  obtain ⟨hs, q⟩ := h
  cases x with
  | non =>
    cases rx
    cases y with
    | non => cases ry; exact PySem.EqNone.eq_none_none (fin_bl I q (by simp))
    | bl j => cases ry; exact PySem.EqNone.eq_none_bool (fin_bl I q (by simp))
    | int j => obtain ⟨t', rfl⟩ := ry; exact PySem.EqNone.eq_none_int (fin_bl I q (by simp))
    | str j => obtain ⟨t', rfl⟩ := ry; exact PySem.EqNone.eq_none_str (fin_bl I q (by simp))
    | _ => exact absurd (show false = true from hs) Bool.false_ne_true
  | bl i =>
    cases rx
    cases y with
    | non => cases ry; exact PySem.EqNone.eq_bool_none (fin_bl I q (by simp))
    | bl j => cases ry; exact eq_bool (fin_bl I q dec_bl)
    | str j => obtain ⟨t', rfl⟩ := ry; exact PySem.EqMixed.eq_bool_str (fin_bl I q (by simp))
    | _ => exact absurd (show false = true from hs) Bool.false_ne_true
  | int i =>
    obtain ⟨t, rfl⟩ := rx
    cases y with
    | non => cases ry; exact PySem.EqNone.eq_int_none (fin_bl I q (by simp))
    | int j => obtain ⟨t', rfl⟩ := ry; exact eq_int (fin_bl I q dec_int)
    | str j => obtain ⟨t', rfl⟩ := ry; exact PySem.EqMixed.eq_int_str (fin_bl I q (by simp))
    | _ => exact absurd (show false = true from hs) Bool.false_ne_true
  | str i =>
    obtain ⟨t, rfl⟩ := rx
    cases y with
    | non => cases ry; exact PySem.EqNone.eq_str_none (fin_bl I q (by simp))
    | bl j => cases ry; exact PySem.EqMixed.eq_str_bool (fin_bl I q (by simp))
    | int j => obtain ⟨t', rfl⟩ := ry; exact PySem.EqMixed.eq_str_int (fin_bl I q (by simp))
    | str j => obtain ⟨t', rfl⟩ := ry; exact eq_str (fin_bl I q dec_str)
    | _ => exact absurd (show false = true from hs) Bool.false_ne_true
  | byt i =>
    obtain ⟨t, rfl⟩ := rx
    cases y with
    | byt j => obtain ⟨t', rfl⟩ := ry; exact PySem.W.eq_bytes (fin_bl I q dec_byt)
    | _ => exact absurd (show false = true from hs) Bool.false_ne_true
  | _ => cases y <;> exact absurd (show false = true from hs) Bool.false_ne_true
theorem op_ne : OpR X (compareOp .NotEq) rNe := by
  intro pins s σ H x y v u Q I rx ry h
  obtain ⟨hs, q⟩ := h
  cases x with
  | non =>
    cases rx
    cases y with
    | non => cases ry; exact PySem.EqNone.ne_none_none (fin_bl I q (by simp))
    | bl j => cases ry; exact PySem.EqNone.ne_none_bool (fin_bl I q (by simp))
    | int j => obtain ⟨t', rfl⟩ := ry; exact PySem.EqNone.ne_none_int (fin_bl I q (by simp))
    | str j => obtain ⟨t', rfl⟩ := ry; exact PySem.EqNone.ne_none_str (fin_bl I q (by simp))
    | _ => exact absurd (show false = true from hs) Bool.false_ne_true
  | bl i =>
    cases rx
    cases y with
    | non => cases ry; exact PySem.EqNone.ne_bool_none (fin_bl I q (by simp))
    | bl j => cases ry; exact ne_bool (fin_bl I q (congrArg not dec_bl))
    | str j => obtain ⟨t', rfl⟩ := ry; exact PySem.EqMixed.ne_bool_str (fin_bl I q (by simp))
    | _ => exact absurd (show false = true from hs) Bool.false_ne_true
  | int i =>
    obtain ⟨t, rfl⟩ := rx
    cases y with
    | non => cases ry; exact PySem.EqNone.ne_int_none (fin_bl I q (by simp))
    | int j => obtain ⟨t', rfl⟩ := ry; exact ne_int (fin_bl I q (congrArg not dec_int))
    | str j => obtain ⟨t', rfl⟩ := ry; exact PySem.EqMixed.ne_int_str (fin_bl I q (by simp))
    | _ => exact absurd (show false = true from hs) Bool.false_ne_true
  | str i =>
    obtain ⟨t, rfl⟩ := rx
    cases y with
    | non => cases ry; exact PySem.EqNone.ne_str_none (fin_bl I q (by simp))
    | bl j => cases ry; exact PySem.EqMixed.ne_str_bool (fin_bl I q (by simp))
    | int j => obtain ⟨t', rfl⟩ := ry; exact PySem.EqMixed.ne_str_int (fin_bl I q (by simp))
    | str j => obtain ⟨t', rfl⟩ := ry; exact ne_str (fin_bl I q (congrArg not dec_str))
    | _ => exact absurd (show false = true from hs) Bool.false_ne_true
  | byt i =>
    obtain ⟨t, rfl⟩ := rx
    cases y with
    | byt j => obtain ⟨t', rfl⟩ := ry; exact PySem.W.ne_bytes (fin_bl I q (congrArg not dec_byt))
    | _ => exact absurd (show false = true from hs) Bool.false_ne_true
  | _ => cases y <;> exact absurd (show false = true from hs) Bool.false_ne_true
theorem op_lt : OpR X (compareOp .Lt) (rI0 fun i j => .bl (decide (i < j))) := opB0 fun _ _ _ _ _ _ _ q => lt_int q
theorem op_le : OpR X (compareOp .LtE) (rI0 fun i j => .bl (decide (i ≤ j))) := opB0 fun _ _ _ _ _ _ _ q => le_int q
theorem op_gt : OpR X (compareOp .Gt) (rI0 fun i j => .bl (decide (j < i))) := opB0 fun _ _ _ _ _ _ _ q => gt_int q
theorem op_in_str : OpR X (compareOp .In) (fun x y H Q => ∃ i j, x = .str i ∧ y = .str j ∧ Q (.bl (!(Builtin.Str.occurrences j i 0 j.length 1).isEmpty)) H) := by
  intro pins s σ H x y v u Q I rx ry h
  obtain ⟨i, j, rfl, rfl, q⟩ := h
  obtain ⟨t, rfl⟩ := rx
  obtain ⟨t', rfl⟩ := ry
  exact in_str (fin_bl I q rfl)
theorem nomark (b : Expr) {op : CmpOp} (h : op ≠ .In := by decide) (h2 : op ≠ .NotIn := by decide) : behindInMarks op b = false := by
  have e1 : (op == CmpOp.In) = false := by cases op <;> first | rfl | exact absurd rfl h
  have e2 : (op == CmpOp.NotIn) = false := by cases op <;> first | rfl | exact absurd rfl h2
  cases b <;> simp [behindInMarks, e1, e2]
theorem pe_cmpR {op : CmpOp} {r : R2} (ho : OpR X (compareOp op) r) (ha : PE X a ta) (hb : PE X b tb) (hm : behindInMarks op b = false) : PE X (.Compare a [op] [b] pos) (tOp r ta tb) := by
  intro pins s σ H Q I h
  exact wpAny_Compare1 (binT ha hb I h fun v u s2 x y H2 I2 rx ry q => ho pins s2 σ H2 x y v u Q I2 rx ry q) hm
def tTest (t : TE) : TT := fun σ H Q => t σ H fun x H' => ∃ k, x = .bl k ∧ Q k H'
theorem pt_cmpR {op : CmpOp} {r : R2} (ho : OpR X (compareOp op) r) (ha : PE X a ta) (hb : PE X b tb) (hm : behindInMarks op b = false) : PT X (.Compare a [op] [b] pos) (tTest (tOp r ta tb)) := by
  intro pins s σ H Q I h
  refine wpAny_isTrue_Compare1 (thn (ha pins s σ H _ I h) fun v s1 ⟨x, H1, I1, r1, q1⟩ => thn (hb pins s1 σ H1 _ I1 q1) fun u s2 ⟨y, H2, I2, r2, q2⟩ =>
    thn (ho pins s2 σ H2 x y v u _ I2 r1 r2 q2) fun c s3 ⟨z, H3, I3, r3, k, e, q3⟩ => ?_) hm
  subst e
  cases r3
  exact wpAny_truthy_bool ⟨H3, I3, q3⟩
def tChain (r r' : R2) (ta tb tc : TE) : TE := fun σ H Q => ta σ H fun x H1 => tb σ H1 fun y H2 => r x y H2 fun z H3 => ∃ k, z = .bl k ∧
  (if k = true then tc σ H3 fun w' H4 => r' y w' H4 Q else Q (.bl false) H3)
theorem pe_chain {op op' : CmpOp} {r r' : R2} (ho : OpR X (compareOp op) r) (ho' : OpR X (compareOp op') r') (ha : PE X a ta) (hb : PE X b tb) (hc : PE X c tc)
    (hm : lastMarks [op, op'] [b, c] = false := by with_unfolding_all rfl) : PE X (.Compare a [op, op'] [b, c] pos) (tChain r r' ta tb tc) := by
  intro pins s σ H Q I h
  refine Compare_chain (thn (ha pins s σ H _ I h) fun v s1 ⟨x, H1, I1, r1, q1⟩ => chain_link (thn (hb pins s1 σ H1 _ I1 q1) fun u s2 ⟨y, H2, I2, r2, q2⟩ =>
    thn (ho pins s2 σ H2 x y v u _ I2 r1 r2 q2) fun d s3 ⟨z, H3, I3, r3, k, e, q3⟩ => ?_)) hm
  subst e
  cases r3
  refine wpAny_truthy_bool ?_
  cases k with
  | false => exact ite_ff ⟨.bl false, H3, I3, rfl, q3⟩
  | true => exact ite_tt (chain_last (thn (hc pins s3 σ H3 _ I3 q3) fun w' s4 ⟨z', H4, I4, r4, q4⟩ => ho' pins s4 σ H4 y z' u w' Q I4 r2 r4 q4))
theorem pt_chain {op op' : CmpOp} {r r' : R2} (ho : OpR X (compareOp op) r) (ho' : OpR X (compareOp op') r') (ha : PE X a ta) (hb : PE X b tb) (hc : PE X c tc)
    (hm : lastMarks [op, op'] [b, c] = false := by with_unfolding_all rfl) : PT X (.Compare a [op, op'] [b, c] pos) (tTest (tChain r r' ta tb tc)) := by
  intro pins s σ H Q I h
  refine isTrue_chain (thn (ha pins s σ H _ I h) fun v s1 ⟨x, H1, I1, r1, q1⟩ => test_link (thn (hb pins s1 σ H1 _ I1 q1) fun u s2 ⟨y, H2, I2, r2, q2⟩ =>
    thn (ho pins s2 σ H2 x y v u _ I2 r1 r2 q2) fun d s3 ⟨z, H3, I3, r3, k, e, q3⟩ => ?_)) hm
  subst e
  cases r3
  refine wpAny_truthy_bool ?_
  cases k with
  | false =>
    obtain ⟨k', e', q'⟩ := q3
    cases e'
    exact ite_ff ⟨H3, I3, q'⟩
  | true =>
    refine ite_tt (test_last (thn (hc pins s3 σ H3 _ I3 q3) fun w' s4 ⟨z', H4, I4, r4, q4⟩ => thn (ho' pins s4 σ H4 y z' u w' _ I4 r2 r4 q4) fun d' s5 ⟨z2, H5, I5, r5, k2, e2, q5⟩ => ?_))
    subst e2
    cases r5
    exact wpAny_truthy_bool ⟨H5, I5, q5⟩
def TruV (K : PySem.W.Frag) (x : V) (H : Hp) (k : Bool) : Prop :=
  match x with
  | .non => k = false
  | .bl b => k = b
  | .int i => k = (i != 0)
  | .str y => y.length ≤ sizeLine ∧ k = ((y.length : Int) != 0)
  | .byt y => y.size ≤ sizeLine ∧ k = ((y.size : Int) != 0)
  | .ref p => (∃ xs, SqL K H p xs ∧ k = !xs.isEmpty) ∨ (∃ xs, SqT K H p xs ∧ k = !xs.isEmpty) ∨ ∃ kvs, H p = some (.dK kvs) ∧ k = !kvs.isEmpty
  | _ => False
theorem isEmpty_kv {κ : Type} {kvs : List (κ × V)} {vs : List (κ × Value)} (r : KV kvs vs) : (!vs.isEmpty) = !kvs.isEmpty := by
  cases r <;> rfl
theorem isEmpty_of {xs : List V} {its : List Value} (r : Vals xs its) : (!its.toArray.isEmpty) = !xs.isEmpty := by
  cases r <;> simp
theorem line63 : (sizeLine : Nat) < 2 ^ 63 := by rw [sizeLine_eq]; decide
theorem tru_ok : TruR X (fun x H Q => ∃ k, TruV X.K x H k ∧ Q k H) := by
  intro pins s σ H x v Q I rx h
  obtain ⟨k, e, q⟩ := h
  have hl := line63
  have hs : sizeLine = 16777216 := sizeLine_eq
  cases x with
  | non =>
    cases rx
    have e' : k = false := e
    subst e'
    exact truthy_none ⟨H, I, q⟩
  | bl b =>
    cases rx
    have e' : k = b := e
    subst e'
    exact wpAny_truthy_bool ⟨H, I, q⟩
  | int i =>
    obtain ⟨t, rfl⟩ := rx
    have e' : k = (i != 0) := e
    subst e'
    exact PySem.P.truthy_int ⟨H, I, q⟩
  | str y =>
    obtain ⟨t, rfl⟩ := rx
    obtain ⟨hy, e'⟩ : y.length ≤ sizeLine ∧ k = ((y.length : Int) != 0) := e
    subst e'
    exact PySem.P.truthy_str (by omega) ⟨H, I.tok _, q⟩
  | byt y =>
    obtain ⟨t, rfl⟩ := rx
    obtain ⟨hy, e'⟩ : y.size ≤ sizeLine ∧ k = ((y.size : Int) != 0) := e
    subst e'
    exact PySem.W.truthy_bytes (by omega) ⟨H, I.tok _, q⟩
  | ref p =>
    cases rx
    have e' : (∃ xs, SqL X.K H p xs ∧ k = !xs.isEmpty) ∨ (∃ xs, SqT X.K H p xs ∧ k = !xs.isEmpty) ∨ ∃ kvs, H p = some (.dK kvs) ∧ k = !kvs.isEmpty := e
    rcases e' with ⟨xs, hx, e'⟩ | ⟨xs, hx, e'⟩ | ⟨kvs, hx, e'⟩
    · subst e'
      obtain ⟨its, r, pl, hz⟩ := I.list hx
      have hlen := r.length
      exact wpAny_truthy_list pl.isList (by simp only [List.size_toArray]; omega) ⟨H, I.tok _, by rw [isEmpty_of r]; exact q⟩
    · subst e'
      obtain ⟨its, r, pl, hz⟩ := I.tuple hx
      have hlen := r.length
      exact truthy_tuple pl (by simp only [List.size_toArray]; omega) ⟨H, I.tok _, by rw [isEmpty_of r]; exact q⟩
    · subst e'
      obtain ⟨hz, hS, vs, r, m⟩ : kvs.length ≤ sizeLine ∧ (p == sysModules) = false ∧ ∃ vs, KV kvs vs ∧ s.heap.DictOf (mixKind X.prog X.w) p vs := I.hok p _ hx
      have hlen : kvs.length = vs.length := Paired.length r
      exact wpAny_truthy_dict hS m (by omega) ⟨H, I.tok _, by rw [isEmpty_kv r]; exact q⟩
  | _ => exact (show False from e).elim
theorem pt_truth (ha : PE X a ta) (he : ∀ whole, isTrue a X.env whole = (do let v ← whole; standAt a.pos; holding [v] (truthy v))) :
    PT X a (fun σ H Q => ta σ H fun x H' => ∃ k, TruV X.K x H' k ∧ Q k H') := by
  intro pins s σ H Q I h
  exact isTrue_plain (thn (ha pins s σ H _ I h) fun v s1 ⟨x, H1, I1, r1, q1⟩ => tru_ok pins s1 σ H1 x v Q I1 r1 q1) (he _)
theorem op_add_str : OpR X (binaryOp .Add) (fun x y H Q => ∃ i j, x = .str i ∧ y = .str j ∧ i.length + j.length ≤ sizeLine ∧ Q (.str (i ++ j)) H) := by
  intro pins s σ H x y v u Q I rx ry h
  obtain ⟨i, j, rfl, rfl, hz, q⟩ := h
  obtain ⟨t, rfl⟩ := rx
  obtain ⟨t', rfl⟩ := ry
  exact add_str (fun t' tk => ⟨.str (i ++ j), H, I.tok _, ⟨_, rfl⟩, q⟩) hz
theorem vals1 {x : V} {us : List Value} (r : Vals [x] us) : ∃ u, us = [u] ∧ RelV x u := by
  cases r with
  | cons r1 r2 => cases r2; exact ⟨_, rfl, r1⟩
theorem vals2 {x y : V} {us : List Value} (r : Vals [x, y] us) : ∃ u w', us = [u, w'] ∧ RelV x u ∧ RelV y w' := by
  cases r with
  | cons r1 r2 =>
    cases r2 with
    | cons r3 r4 => cases r4; exact ⟨_, _, rfl, r1, r3⟩
theorem call_str_int : CallR X (.type "str") (fun xs H Q => ∃ i, xs = [.int i] ∧ i.natAbs.log2 < 1920 ∧ Q (.str (toString i)) H) := by
  intro pins s σ H xs us Q I r h
  obtain ⟨i, rfl, hz, q⟩ := h
  obtain ⟨u, rfl, t, rfl⟩ := vals1 r
  exact PySem.P.str_of_int hz ⟨.str _, H, I.tok _, ⟨_, rfl⟩, q⟩
end
end L2
namespace L2
open PySem PySem.Spec PyProof.Rows
structure ObjM (h : Heap) (x dx C : Addr) (mA : Str → Option Value) : Prop where
  obj : h.get? x = some (PySem.W.instObj C dx)
  ns : h.Ns1 dx mA
  ne : dx ≠ x
theorem lookIn_ns {h : Heap} {dx : Addr} {mA : Str → Option Value} (n : h.Ns1 dx mA) : ∃ od, h.get? dx = some od ∧ ∀ name, PySem.W.lookIn name od = some (mA name) := by
  obtain ⟨o, es, ep, ho, hd, hk, _, hm⟩ := n
  refine ⟨o, ho, fun name => ?_⟩
  have e := hm name
  unfold nsFind findBy at e
  rw [← Array.find?_toList] at e
  unfold PySem.W.lookIn
  rw [hd]
  dsimp only
  split
  · rename_i y q
    rw [q] at e
    exact congrArg some e
  · rename_i q
    rw [q] at e
    have a : es.toList.any (·.refKey) = false := by
      rw [List.any_eq_false]
      intro y hy
      obtain ⟨z, t, hkey⟩ := hk y (Array.mem_toList_iff.mp hy)
      simp [DictEntry.refKey, hkey]
    have a' : ¬ es.toList.any (·.refKey) = true := by rw [a]; exact Bool.false_ne_true
    rw [if_neg a']
    exact congrArg some e
theorem ObjM.look {h : Heap} {x dx C : Addr} {mA : Str → Option Value} (I : ObjM h x dx C mA) : ∃ od, PySem.W.InstAt h x (PySem.W.instObj C dx) C (some od) ∧ ∀ name, PySem.W.lookIn name od = some (mA name) :=
  let ⟨od, ho, hl⟩ := lookIn_ns I.ns
  ⟨od, ⟨I.obj, rfl, rfl, ho⟩, hl⟩
section
variable {prog : Program} {w : World} {A : Around} {E : Value → Shared → Prop} {s : Shared} {K : PySem.W.Frag} {x dx C f : Addr} {mA : Str → Option Value} {name : Str} {v : Value}
end
theorem RelO.none_of {o : Option Value} (r : RelO none o) : o = none := by
  cases o with
  | none => rfl
  | some u => exact (show False from r).elim
section
variable {P : Program} {w : World} {H H' : Hp} {h h' : Heap} {a C dx : Addr} {fs fs' : List (Str × V)}
theorem ins_get (hok : HOk P w H h) (e : H a = some (.ins C dx fs)) : ∃ mA, ObjM h a dx C mA ∧ (∀ f, RelO (fs.lookup f) (mA f)) ∧ PySem.Within mA (fs.map (·.1)) ∧ fs.length ≤ 1000 ∧ H dx = some (.own a) := by
  obtain ⟨d, z, ne, ob, mA, n, r, q⟩ := (show ObjOk P w H h a (.ins C dx fs) from hok a _ e)
  exact ⟨mA, ⟨ob, n, ne⟩, r, q, z, d⟩
end
structure Cls (K : PySem.W.Frag) (C : Addr) : Prop where
  pg : PySem.W.plainGet K C Str.empty = true
  hd : PySem.W.hasDictIn K C = true
  po : PySem.W.plainOver K C = true
  sa : PySem.W.findIn K (.ref C) "__setattr__" = some (some (.builtin "object.__setattr__"))
theorem Cls.get {K : PySem.W.Frag} {C : Addr} (c : Cls K C) (f : Str) : PySem.W.plainGet K C f = true := c.pg
structure Con (K : PySem.W.Frag) (C : Addr) (f : Str) (v : V) (u : Value) : Prop where
  at_ : PySem.W.findIn K (.ref C) f = some (some u)
  rel : RelV v u
  get : PySem.W.specialIn K u "__get__" = some none
  cp : PySem.W.copiedNames.contains f = false
structure Meth (K : PySem.W.Frag) (C : Addr) (m : Str) (f : Addr) : Prop where
  at_ : PySem.W.findIn K (.ref C) m = some (some (.ref f))
  fn : PySem.W.isFn K (.ref f) = true
  kp : PySem.W.keepIn K (.ref f) = true
section
variable {X : Cx} {pins : List (Addr × Obj)} {σ : St} {H : Hp} {s : Shared} {a C dx : Addr} {fs : List (Str × V)} {f : Str} {v : V} {A : Around} {E : Value → Shared → Prop}
end
section
variable {X : Cx} {o e value : Expr} {f : Str} {pos pos' tpos : Pos} {ta tv : TE}
end
section
variable {X : Cx} {pins : List (Addr × Obj)} {σ : St} {H : Hp} {s : Shared} {A : Around} {E : Value → Shared → Prop} {Q : Value → Shared → Prop} {c : Value} {b : Bool}
inductive TyOf (K : PySem.W.Frag) (H : Hp) : V → Value → Prop where
  | non : TyOf K H .non (.type "NoneType")
  | bl (x : Bool) : TyOf K H (.bl x) (.type "bool")
  | int (i : Int) : TyOf K H (.int i) (.type "int")
  | str (x : Str) : TyOf K H (.str x) (.type "str")
  | flt (x : UInt64) : TyOf K H (.flt x) (.type "float")
  | lst {a : Addr} {xs : List V} (e : H a = some (.lst xs)) : TyOf K H (.ref a) (.type "list")
  | frz {a : Addr} {o : Obj} {xs : List V} (e : H a = some (.frz o (.lst xs))) : TyOf K H (.ref a) (.type "list")
  | tup {a : Addr} {xs : List V} (e : H a = some (.tup xs)) : TyOf K H (.ref a) (.type "tuple")
  | dK {a : Addr} {kvs : List (Key × V)} (e : H a = some (.dK kvs)) : TyOf K H (.ref a) (.type "dict")
  | dT {a : Addr} {kvs : List (List Key × V)} (e : H a = some (.dT kvs)) : TyOf K H (.ref a) (.type "dict")
  | ins {a C dx : Addr} {fs : List (Str × V)} (e : H a = some (.ins C dx fs)) (cl : Cls K C) (ha : PySem.W.findIn K (.ref C) "__class__" = some (some (.builtin "object.__class__")))
      (hn : PySem.W.specialIn K (.builtin "object.__class__") "__get__" = some (some (.builtin "getset_descriptor.__get__"))) (htk : PySem.W.takesIn K (.builtin "object.__class__") = some true)
      (hm : PySem.W.mroIn K C (.type "object") = some true) : TyOf K H (.ref a) (.ref C)
theorem isinst_ok {x : V} {u t : Value} (I : Inv X pins σ H s) (rx : RelV x u) (ty : TyOf X.K H x t) (e : PySem.W.kitOne X.K t c = some b) (h : ∀ tk, Q (.bool b) { s with toks := tk }) :
    wpAny (model X.prog X.w) A (call (.builtin "isinstance") [u, c]) Q E s := by
  cases ty with
  | non => cases (show u = Value.none from rx); exact PySem.W.kia_one PySem.W.kitx_none I.kIn True.intro e (fun z => nomatch z) h
  | bl y => cases (show u = Value.bool y from rx); exact PySem.W.kia_one PySem.W.kitx_bool I.kIn True.intro e (fun z => nomatch z) h
  | int i => obtain ⟨t, q⟩ := (show ∃ t, u = Value.int i t from rx); cases q; exact PySem.W.kia_one PySem.W.kitx_int I.kIn True.intro e (fun z => nomatch z) h
  | str y => obtain ⟨t, q⟩ := (show ∃ t, u = Value.str y t from rx); cases q; exact PySem.W.kia_one PySem.W.kitx_str I.kIn True.intro e (fun z => nomatch z) h
  | flt y => obtain ⟨t, q⟩ := (show ∃ t, u = Value.float y t from rx); cases q; exact PySem.W.kia_one PySem.W.kitx_float I.kIn True.intro e (fun z => nomatch z) h
  | @lst a xs ea =>
    cases (show u = Value.ref a from rx)
    obtain ⟨_, _, n, _, h1⟩ := (show ObjOk X.prog X.w H s.heap a (.lst xs) from I.hok a _ ea)
    exact PySem.W.kia_one PySem.W.kitx_list I.kIn ⟨_, h1, rfl⟩ e (fun z => nomatch z) h
  | @frz a ob xs ea =>
    cases (show u = Value.ref a from rx)
    obtain ⟨_, _, _, n, _, h1⟩ := (show ObjOk X.prog X.w H s.heap a (.frz ob (.lst xs)) from I.hok a _ ea)
    exact PySem.W.kia_one PySem.W.kitx_list I.kIn ⟨_, h1, rfl⟩ e (fun z => nomatch z) h
  | @tup a xs ea =>
    cases (show u = Value.ref a from rx)
    obtain ⟨_, _, _, p⟩ := (show ObjOk X.prog X.w H s.heap a (.tup xs) from I.hok a _ ea)
    obtain ⟨o, h1, h2, _⟩ := p
    exact PySem.W.kia_one PySem.W.kitx_tuple I.kIn ⟨o, h1, h2⟩ e (fun z => nomatch z) h
  | @dK a kvs ea =>
    cases (show u = Value.ref a from rx)
    obtain ⟨_, _, vs, _, p⟩ := (show ObjOk X.prog X.w H s.heap a (.dK kvs) from I.hok a _ ea)
    obtain ⟨o, es, ep, h1, h2, _⟩ := p
    exact PySem.W.kia_one PySem.W.kitx_dict I.kIn ⟨o, h1, h2.1⟩ e (fun z => nomatch z) h
  | @dT a kvs ea =>
    cases (show u = Value.ref a from rx)
    obtain ⟨_, _, xs, _, o, es, ep, h1, h2, _⟩ := (show ObjOk X.prog X.w H s.heap a (.dT kvs) from I.hok a _ ea)
    exact PySem.W.kia_one PySem.W.kitx_dict I.kIn ⟨o, h1, h2.1⟩ e (fun z => nomatch z) h
  | @ins a C dx fs ea cl ha hn htk hm =>
    cases (show u = Value.ref a from rx)
    obtain ⟨mA, O, _⟩ := ins_get I.hok ea
    obtain ⟨od, J, _⟩ := O.look
    exact PySem.W.kia_one (PySem.W.kitx_own (cl.get _) cl.hd ha hn htk hm) I.kIn J e (fun z => nomatch z) h
end
end L2
namespace L2
open PySem PySem.Spec PyProof.Rows
structure Room (k : Nat) (A : Around) : Prop where
  hd : A.handled = none
  dp : A.depth + 3 * k + 5 < recursionLimit
  un : A.units + 16 * k + 200 < cLine
  gd : A.guards = some []
theorem Room.mono {j k : Nat} {A : Around} (r : Room k A) (h : j ≤ k) : Room j A := ⟨r.hd, by have := r.dp; omega, by have := r.un; omega, r.gd⟩
theorem Room.deeper {k : Nat} {A : Around} (r : Room (k + 1) A) (env : Env) : Room k (A.deeper env) :=
  ⟨r.hd, by have := r.dp; show A.depth + 1 + 3 * k + 5 < _; omega, by have := r.un; show A.units + 3 + 16 * k + 200 < _; omega, r.gd⟩
theorem Room.in1 {k : Nat} {A : Around} (r : Room (k + 1) A) : Room k A.in1 :=
  ⟨r.hd, by have := r.dp; show A.depth + 3 * k + 5 < _; omega, by have := r.un; show A.units + 1 + 16 * k + 200 < _; omega, r.gd⟩
theorem Room.depth {k : Nat} {A : Around} (r : Room k A) : A.depth < recursionLimit := by have := r.dp; omega
theorem Room.units {k : Nat} {A : Around} (r : Room k A) : A.units + 64 < cLine := by have := r.un; omega
theorem Room.units0 {k : Nat} {A : Around} (r : Room k A) : A.units < cLine := by have := r.un; omega
def tNil : TA := fun _ H Q => Q [] H
def tCons (ta : TE) (tr : TA) : TA := fun σ H Q => ta σ H fun x H1 => tr σ H1 fun xs H2 => Q (x :: xs) H2
section
variable {X : Cx} {e : Expr} {es : List Expr} {te : TE} {t : TA} {pos : Pos}
theorem pa_nil : PA X [] tNil := fun _ _ _ _ H Q I h => Calls.spliced_nil ⟨[], H, I, .nil, h⟩
theorem pa_cons (ha : PE X e te) (hr : PA X es t) (hs : starEach (e :: es) X.env = (false, eval e X.env) :: starEach es X.env := by rfl) : PA X (e :: es) (tCons te t) := by
  intro pos pins s σ H Q I h
  rw [hs]
  show wpAny _ _ (spliced ((false, eval e X.env) :: backTo pos (starEach es X.env))) _ _ s
  refine Calls.spliced_cons (thn (ha pins s σ H _ I h) fun u s1 ⟨x, H1, I1, r1, q1⟩ => ?_)
  exact thn (hr pos pins s1 σ H1 _ I1 q1) fun us s2 ⟨xs, H2, I2, r2, q2⟩ => ⟨x :: xs, H2, I2, .cons r1 r2, q2⟩
def tTup (t : TA) : TE := fun σ H Q => t σ H fun xs H1 => xs.length ≤ sizeLine ∧ ∀ p, H1 p = none → Q (.ref p) (upd H1 p (.tup xs))
def tLst (t : TA) : TE := fun σ H Q => t σ H fun xs H1 => xs.length ≤ sizeLine ∧ ∀ p, H1 p = none → Q (.ref p) (upd H1 p (.lst xs))
theorem pe_tup {x1} (h : PA X es t) : PE X (.Tuple es x1 pos) (tTup t) := by
  intro pins s σ H Q I hq
  refine wpAny_Tuple_spliced (thn (h pos pins s σ H _ I hq) fun us s1 ⟨xs, H1, I1, r, z, q⟩ => ⟨by rw [← r.length]; exact z, ?_⟩)
  have hf : H1 s1.heap.objs.size = none := I1.hok.fresh (Nat.le_refl _)
  refine ⟨.ref s1.heap.objs.size, upd H1 s1.heap.objs.size (.tup xs), I1.laid (t' := s1.toks) (fun b u e => Heap.get?_push_of_some _ e) (Nat.le_refl _) ?_, rfl, q _ hf⟩
  exact ⟨z, us, r, ⟨_, Heap.get?_push_size _ rfl, rfl, _, rfl⟩⟩
theorem pe_lst (h : PA X es t) : PE X (.List es pos) (tLst t) := by
  intro pins s σ H Q I hq
  refine wpAny_List_spliced (thn (h pos pins s σ H _ I hq) fun us s1 ⟨xs, H1, I1, r, z, q⟩ => ⟨by rw [← r.length]; exact z, ?_⟩)
  have hf : H1 s1.heap.objs.size = none := I1.hok.fresh (Nat.le_refl _)
  refine ⟨.ref s1.heap.objs.size, upd H1 s1.heap.objs.size (.lst xs), I1.laid (t' := s1.toks) (fun b u e => Heap.get?_push_of_some _ e) (Nat.le_refl _) ?_, rfl, q _ hf⟩
  exact ⟨z, us, 0, r, Heap.get?_push_size _ rfl⟩
end
abbrev Sp := List V → Hp → VK → XK → Prop
abbrev CXT := List Env → Hp → Shared → XK → Value → Shared → Prop
structure Env0 (P : Program) (w : World) (K : PySem.W.Frag) (mg : Str → Option Value) (base : Heap) (A : Around) (outer : List Env) (s : Shared) (H : Hp) : Prop where
  frames : A.frames = some outer
  mod : Mod K mg base
  bs : ∀ b o, base.get? b = some o → s.heap.get? b = some o ∧ H b = none
  bsz : base.objs.size ≤ s.heap.objs.size
  funs : s.heap.FunFrames base outer
  frf : ∀ b ∈ frs outer, H b = none
  hok : HOk P w H s.heap
  bare : AllBare s.gens
def CE (outer : List Env) (P : Program) (w : World) (H : Hp) (s : Shared) (Q : VK) (u : Value) (s' : Shared) : Prop :=
  ∃ v H', s'.os = s.os ∧ AllBare s'.gens ∧ Un (frs outer) [] H H' s.heap s'.heap ∧ HOk P w H' s'.heap ∧ RelV v u ∧ Q v H'
def CR (CX : CXT) (outer : List Env) (P : Program) (w : World) (H : Hp) (s : Shared) (Q : VK) (E : XK) (r : Result) (s' : Shared) : Prop :=
  match r with
  | .ok (.ret u) => CE outer P w H s Q u s'
  | .ok _ => False
  | .error e => CX outer H s E e s'
structure FnOk (P : Program) (w : World) (K : PySem.W.Frag) (mg : Str → Option Value) (base : Heap) (CX : CXT) (k : Nat) (f : Addr) (fd : FuncData) (ps : List Str) (sp : Sp) : Prop where
  len : ∀ vs H Q E, sp vs H Q E → vs.length = ps.length
  run : ∀ (A : Around) (outer : List Env) (s : Shared) (H : Hp) (args : Args) (us : List Value) (vs : List V) (Q : VK) (E : XK), Room k A → Env0 P w K mg base A outer s H → BindsTo s fd args (ps.zip us) → Vals vs us → sp vs H Q E →
    codeAny (model P w) A (.call (.ref f) args) (CR CX outer P w H s Q E) s
theorem FnOk.mono {P : Program} {w : World} {K : PySem.W.Frag} {mg : Str → Option Value} {base : Heap} {CX : CXT} {j k : Nat} {f : Addr} {fd : FuncData} {ps : List Str} {sp : Sp} (F : FnOk P w K mg base CX j f fd ps sp) (h : j ≤ k) :
    FnOk P w K mg base CX k f fd ps sp := ⟨F.len, fun A outer s H args us vs Q E hr => F.run A outer s H args us vs Q E (hr.mono h)⟩
theorem Env0.in1 {P : Program} {w : World} {K : PySem.W.Frag} {mg : Str → Option Value} {base : Heap} {A : Around} {outer : List Env} {s : Shared} {H : Hp} (e : Env0 P w K mg base A outer s H) :
    Env0 P w K mg base A.in1 outer s H := ⟨e.frames, e.mod, e.bs, e.bsz, e.funs, e.frf, e.hok, e.bare⟩
section
variable {X : Cx} {pins : List (Addr × Obj)} {σ : St} {H : Hp} {s s' : Shared}
theorem Inv.env0 (I : Inv X pins σ H s) : Env0 X.prog X.w X.K X.mg X.base X.A X.stack s H :=
  ⟨I.ok.frames, I.ok.mod, I.bs, Nat.le_trans I.ok.bsz I.sz, I.stack, I.stkFree, I.hok, I.bare⟩
theorem Inv.after {Q : VK} {u : Value} (I : Inv X pins σ H s) (h : CE X.stack X.prog X.w H s Q u s') : EP X pins σ Q u s' := by
  obtain ⟨v, H', os, bare, un, hok, r, q⟩ := h
  obtain ⟨hh, g, d, t, os'⟩ := s'
  obtain rfl : os' = s.os := os
  exact ⟨v, H', I.call (h' := hh) (g' := g) (d' := d) (t' := t) (ch := []) un hok bare (fun b z => absurd z (by simp)), r, q⟩
end
def tCall (sp : Sp) (dvs : List V) (E : XK) (t : TA) : TE := fun σ H Q => t σ H fun vs H1 => sp (vs ++ dvs) H1 Q E
def Binds (K : PySem.W.Frag) (fd : FuncData) (ps : List Str) (ds : List Value) : Prop :=
  ∀ (s : Shared) (us : List Value), K.In s.heap → (us ++ ds).length = ps.length → BindsTo s fd ⟨us, []⟩ (ps.zip (us ++ ds))
theorem Binds.all {K : PySem.W.Frag} {fd : FuncData} {ps : List Str} (h : ∀ us : List Value, us.length = ps.length → bindArgs fd ⟨us, []⟩ = pure (ps.zip us)) : Binds K fd ps [] := fun s us _ hl => by
  rw [List.append_nil] at hl ⊢
  exact .of_eq (h us hl)
def Passes (CX : CXT) (X : Cx) (E : XK) : Prop := ∀ (pins : List (Addr × Obj)) (σ : St) (H : Hp) (s : Shared) (e : Value) (s' : Shared), Inv X pins σ H s → CX X.stack H s E e s' → X.xe e s'
section
variable {X : Cx} {CX : CXT} {k : Nat} {f C : Addr} {fd : FuncData} {ps : List Str} {sp : Sp} {dvs : List V} {ds : List Value} {E : XK} {x m : Str} {p pos apos : Pos} {e o : Expr} {es : List Expr} {ta : TE} {t : TA}
theorem run_fn {pins : List (Addr × Obj)} {σ : St} {H : Hp} {s : Shared} {Q : VK} {us : List Value} {vs : List V} (F : FnOk X.prog X.w X.K X.mg X.base CX k f fd ps sp) (hr : Room k X.A) (hb : Binds X.K fd ps ds) (hd : Vals dvs ds) (hx : Passes CX X E)
    (I : Inv X pins σ H s) (r : Vals vs us) (h : sp (vs ++ dvs) H Q E) : wpAny (model X.prog X.w) X.A (call (.ref f) us) (EP X pins σ Q) X.xe s := by
  have r2 : Vals (vs ++ dvs) (us ++ ds) := r.append hd
  have hl : (us ++ ds).length = ps.length := by rw [← r2.length]; exact F.len _ _ _ _ h
  refine wpAny_call (codeAny_mono (F.run X.A X.stack s H ⟨us, []⟩ (us ++ ds) (vs ++ dvs) Q E hr I.env0 (hb s us I.kIn hl) r2 h) fun r s' hq => ?_)
  cases r with
  | error e => exact hx pins σ H s e s' I hq
  | ok fl =>
    cases fl with
    | ret u => exact I.after hq
    | next => exact False.elim hq
    | brk => exact False.elim hq
    | cont => exact False.elim hq
theorem pe_call (F : FnOk X.prog X.w X.K X.mg X.base CX k f fd ps sp) (hr : Room k X.A) (hg : Gl X x) (hm : X.mg x = some (.ref f)) (hk : PySem.W.keepIn X.K (.ref f) = true) (hb : Binds X.K fd ps ds) (hd : Vals dvs ds) (hx : Passes CX X E)
    (ha : PA X (e :: es) t) (hdb : (x == ("__debug__" : Str)) = false := by decide) (he : starEach (e :: es) X.env = (false, eval e X.env) :: starEach es X.env := by rfl) (hpl : (backTo pos (starEach es X.env)).any (·.1) = false := by rfl) :
    PE X (.Call (.Name x p) (e :: es) [] pos) (tCall sp dvs E t) := by
  intro pins s σ H Q I h
  refine wpAny_Call_Name_kw (ld_glob I hg hm ?_ hdb)
  refine PySem.W.callWith_K (h₀ := X.base) I.ok.mod.kin hk (thn (ha pos pins s σ H _ I h) fun us s1 ⟨vs, H1, I1, r, q⟩ => ⟨I1.kIn, ?_⟩) he hpl
  exact run_fn F hr hb hd hx I1 r q
structure Mk (K : PySem.W.Frag) (C f : Addr) : Prop where
  makes : PySem.W.makesIn K C = true
  init : PySem.W.findIn K (.ref C) "__init__" = some (some (.ref f))
  fn : PySem.W.isFn K (.ref f) = true
  kp : PySem.W.keepIn K (.ref C) = true
end
section
variable {X : Cx} {CX : CXT} {k : Nat} {f C : Addr} {fd : FuncData} {ps ks : List Str} {sp : Sp} {E : XK} {x m : Str} {p pos apos kpos : Pos} {e o : Expr} {es : List Expr} {kws : List Keyword} {te ta : TE} {t tk : TA} {nm : Option Str}
structure KBinds (K : PySem.W.Frag) (fd : FuncData) (ps ks : List Str) (g : List Value → List Value → List Value) (gV : List V → List V → List V) : Prop where
  to : ∀ (s : Shared) (us ws : List Value), K.In s.heap → (g us ws).length = ps.length → BindsTo s fd ⟨us, ks.zip ws⟩ (ps.zip (g us ws))
  rel : ∀ {vs : List V} {us : List Value} {zs : List V} {ws : List Value}, Vals vs us → Vals zs ws → Vals (gV vs zs) (g us ws)
variable {g : List Value → List Value → List Value} {gV : List V → List V → List V}
end
structure FnScope (N P : List Str) (sc : Scope) : Prop where
  kind : sc.kind = .function
  co : sc.isCoroutine = false
  gen : sc.isGenerator = false
  nd : N.Nodup
  pre : N.take P.length = P
  par : ∀ x ∈ P, sc.names.lookup x = some .local ∨ sc.names.lookup x = some .cell
  nofree : ∀ y ∈ sc.names, y.2 ≠ .free
theorem bindL_out {kindOf : Str → Option NameKind} {x : Str} : ∀ {binds : List (Str × Value)} {m : Str → Option Value}, (∀ v, (x, v) ∉ binds) → bindL kindOf binds m x = m x
  | [], _, _ => rfl
  | (n, v) :: r, m, h => by
    unfold bindL
    rw [bindL_out fun w hw => h w (List.mem_cons_of_mem _ hw)]
    split
    · have : x ≠ n := by rintro rfl; exact h v List.mem_cons_self
      simp [this]
    · rfl
theorem bindC_out {kindOf : Str → Option NameKind} {x : Str} : ∀ {binds : List (Str × Value)} {m : Str → Option Value}, (∀ v, (x, v) ∉ binds) → bindC kindOf binds m x = m x
  | [], _, _ => rfl
  | (n, v) :: r, m, h => by
    unfold bindC
    rw [bindC_out fun w hw => h w (List.mem_cons_of_mem _ hw)]
    split
    · rfl
    · have : x ≠ n := by rintro rfl; exact h v List.mem_cons_self
      simp [this]
theorem bindL_get {kindOf : Str → Option NameKind} {x : Str} {v : Value} : ∀ {P : List Str} {vs : List Value} {i : Nat} {m : Str → Option Value}, P.Nodup → P[i]? = some x → vs[i]? = some v → kindOf x = some .local →
    bindL kindOf (P.zip vs) m x = some v
  | [], _, _, _, _, h, _, _ => by simp at h
  | _ :: _, [], _, _, _, _, h, _ => by simp at h
  | p :: P, w :: vs, 0, m, nd, h1, h2, hk => by
    simp at h1 h2; subst h1; subst h2
    show bindL kindOf ((p, w) :: P.zip vs) m p = _
    unfold bindL
    rw [bindL_out fun v hv => (List.nodup_cons.mp nd).1 (List.of_mem_zip hv).1, if_pos hk]
    simp
  | p :: P, w :: vs, i + 1, m, nd, h1, h2, hk => by
    show bindL kindOf ((p, w) :: P.zip vs) m x = _
    unfold bindL
    exact bindL_get (i := i) (List.nodup_cons.mp nd).2 (by simpa using h1) (by simpa using h2) hk
theorem bindC_get {kindOf : Str → Option NameKind} {x : Str} {v : Value} : ∀ {P : List Str} {vs : List Value} {i : Nat} {m : Str → Option Value}, P.Nodup → P[i]? = some x → vs[i]? = some v → kindOf x ≠ some .local →
    bindC kindOf (P.zip vs) m x = some v
  | [], _, _, _, _, h, _, _ => by simp at h
  | _ :: _, [], _, _, _, _, h, _ => by simp at h
  | p :: P, w :: vs, 0, m, nd, h1, h2, hk => by
    simp at h1 h2; subst h1; subst h2
    show bindC kindOf ((p, w) :: P.zip vs) m p = _
    unfold bindC
    rw [bindC_out fun v hv => (List.nodup_cons.mp nd).1 (List.of_mem_zip hv).1, if_neg hk]
    simp
  | p :: P, w :: vs, i + 1, m, nd, h1, h2, hk => by
    show bindC kindOf ((p, w) :: P.zip vs) m x = _
    unfold bindC
    exact bindC_get (i := i) (List.nodup_cons.mp nd).2 (by simpa using h1) (by simpa using h2) hk
def start (N : List Str) (vs : List V) : St := vs.map some ++ List.replicate (N.length - vs.length) none
def cxOf (CX : CXT) (P : Program) (w : World) (K : PySem.W.Frag) (mg : Str → Option Value) (base : Heap) (N : List Str) (qual : Str) (scope : Scope) (f : Addr) (cd : Value) (A : Around) (outer : List Env) (s : Shared) (H : Hp) (E : XK) : Cx where
  prog := P
  w := w
  K := K
  mg := mg
  base := base
  A := A.deeper (envOfC qual scope s.heap.objs.size f cd)
  N := N
  s₀ := s
  H₀ := H
  env := envOfC qual scope s.heap.objs.size f cd
  outer := outer
  stack := envOfC qual scope s.heap.objs.size f cd :: outer
  ex := []
  calm := true
  fn := fun _ => true
  pn := []
  xe := fun e s' => wpAny (model P w) (A.deeper (envOfC qual scope s.heap.objs.size f cd)) (leaving (envOfC qual scope s.heap.objs.size f cd) e) (fun _ s'' => CX outer H s E e s'') (fun e' s'' => CX outer H s E e' s'') s'
theorem cell_has {sc : Scope} {n : Nat} {x : Str} (h : sc.names.lookup x = some .cell) : ∃ c, (cellsFrom n sc.names []).lookup x = some c := by
  have q := PySem.W.cellsFrom_some sc.names n [] (.inl h)
  exact Option.isSome_iff_exists.mp q
theorem inv_start {CX : CXT} {P : Program} {w : World} {K : PySem.W.Frag} {mg : Str → Option Value} {base : Heap} {N ps : List Str} {qual : Str} {scope : Scope} {f : Addr} {cd : Value} {A : Around} {outer : List Env} {s s1 : Shared} {H : Hp} {E : XK} {us : List Value} {vs : List V}
    (S : FnScope N ps scope) (hd : A.handled = none) (e0 : Env0 P w K mg base A outer s H) (hl : vs.length = ps.length) (r : Vals vs us)
    (x : InCallC s s.heap.objs.size (bindL (envOfC qual scope s.heap.objs.size f cd).kindOf (ps.zip us) fun _ => none) (cellsFrom (s.heap.objs.size + 1) scope.names []) (bindC (envOfC qual scope s.heap.objs.size f cd).kindOf (ps.zip us) fun _ => none) s1) :
    Inv (cxOf CX P w K mg base N qual scope f cd A outer s H E) [] (start N vs) H s1 := by
  have hpl : ps.length ≤ N.length := by have := congrArg List.length S.pre; rw [List.length_take] at this; omega
  obtain ⟨h1, tk, rfl, hk⟩ := x.done
  have noA : ∀ b : Addr, b ∉ (cxOf CX P w K mg base N qual scope f cd A outer s H E).ex := fun b z => absurd (show b ∈ ([] : List Addr) from z) (by simp)
  refine ⟨⟨e0.mod, S.kind, rfl, rfl, Nat.le_refl _, fun y z c h1 h2 => ?_, fun y hy => ?_, fun y c _ h => ?_, fun _ => hd, Around.frames_deeper e0.frames, .inr ⟨rfl, rfl⟩, fun b z => absurd z (noA b), e0.bs, e0.bsz, fun b _ _ => noA b, fun b z => absurd z (noA b), e0.funs, e0.frf⟩,
    rfl, e0.bare, Un.kept hk, ⟨_, x.toInCall.ns, fun i y v h1 h2 h3 => ?_⟩, fun y c h => ⟨_, x.cell y c h⟩, e0.hok.fresh (Nat.le_refl _), fun y c h => ?_, fun p hp => absurd (show p ∈ ([] : List (Addr × Obj)) from hp) (by simp), e0.hok.kept hk, ?_⟩
  · exact name_of_addr x.apart (PySem.mem_of_lookup h1) (PySem.mem_of_lookup h2)
  · have hy : scope.names.lookup y = some .cell ∨ scope.names.lookup y = some .free := hy
    rcases hy with hy | hy
    · exact cell_has hy
    · exact absurd rfl (S.nofree _ (PySem.mem_of_lookup hy))
  · exact Nat.le_of_lt (x.above y c (PySem.mem_of_lookup h))
  · have hi : i < vs.length := by
      unfold start at h2
      by_cases hi : i < vs.length
      · exact hi
      · rw [List.getElem?_append_right (by simpa using hi)] at h2
        rw [List.getElem?_replicate] at h2
        split at h2 <;> cases h2
    have ha : vs[i]? = some v := by
      unfold start at h2
      rw [List.getElem?_append_left (by simpa using hi), List.getElem?_map] at h2
      cases e : vs[i]? with
      | none => rw [e] at h2; cases h2
      | some a => rw [e] at h2; cases h2; rfl
    obtain ⟨u, hu, rv⟩ := r.get ha
    have hp : ps[i]? = some y := by
      rw [← S.pre, List.getElem?_take_of_lt (by omega)]; exact h1
    have ndP : ps.Nodup := by rw [← S.pre]; exact S.nd.sublist (List.take_sublist _ _)
    refine ⟨u, rv, ?_⟩
    rcases S.par y (List.mem_of_getElem? hp) with k | k
    · exact .inl ⟨k, bindL_get ndP hp hu k⟩
    · obtain ⟨c, e⟩ := cell_has (n := s.heap.objs.size + 1) k
      refine .inr ⟨.inl k, c, e, ?_⟩
      have q := x.cell y c e
      rw [bindC_get ndP hp hu (by show scope.names.lookup y ≠ _; rw [k]; decide)] at q
      exact q
  · exact e0.hok.fresh (Nat.le_of_lt (x.above y c (PySem.mem_of_lookup h)))
  · unfold start
    show _ = N.length
    rw [List.length_append, List.length_map, List.length_replicate]
    omega
theorem fn_of {CX : CXT} {P : Program} {w : World} {K : PySem.W.Frag} {mg : Str → Option Value} {base : Heap} {k : Nat} {f : Addr} {name qual : Str} {params : Arguments} {body : List Stmt} {scope : Scope} {dV kV doc pm cdv ct oc : Value} {an od : Option Addr}
    {osl : Array (Option Value)} {N ps : List Str} {sp : Sp} (lk : K.lookup f = some ⟨oc, od, .func (PySem.W.fnOf name qual params body scope dV kV doc pm an cdv ct), osl⟩) (hcd : PySem.W.codeIn K cdv qual = true) (S : FnScope N ps scope)
    (len : ∀ vs H Q E, sp vs H Q E → vs.length = ps.length)
    (hbody : ∀ (A : Around) (outer : List Env) (s : Shared) (H : Hp) (vs : List V) (Q : VK) (E : XK), Room k (A.deeper (envOfC qual scope s.heap.objs.size f cdv)) → sp vs H Q E →
      ∃ t, PSs (cxOf CX P w K mg base N qual scope f cdv A outer s H E) body t ∧ t { nx := fun _ H' => Q .non H', rt := Q } (start N vs) H) :
    FnOk P w K mg base CX (k + 1) f (PySem.W.fnOf name qual params body scope dV kV doc pm an cdv ct) ps sp := by
  refine ⟨len, fun A outer s H args us vs Q E hr e0 hb r hsp => ?_⟩
  have hl := len _ _ _ _ hsp
  have KX : K.In s.heap := e0.mod.kin.keeps fun b o e => (e0.bs b o e).1
  have lim : s.heap.NoLimit := e0.mod.nolimit.keeps fun b o e => (e0.bs b o e).1
  have hkind : ∀ y ∈ ps.zip us, scope.names.lookup y.1 = some .local ∨ (scope.names.lookup y.1 = some .cell ∧ ((cellsFrom (s.heap.objs.size + 1) scope.names []).lookup y.1).isSome = true) := fun ⟨n, v⟩ hy => by
    rcases S.par n (List.of_mem_zip hy).1 with q | q
    · exact .inl q
    · exact .inr ⟨q, PySem.W.cellsFrom_some _ _ _ (.inl q)⟩
  refine codeAny_call_function hr.depth (KX _ _ lk) rfl S.co S.gen rfl (PySem.W.codeRec_of KX hcd) (hb _ _ _ _ ?_)
  refine wpAny_newFunctionEnv_cells S.kind hkind fun env he s1 x => ?_
  subst he
  refine ⟨lim.keeps x.toInCall.keep, codeAny_func ?_⟩
  obtain ⟨t, ht, hq⟩ := hbody A outer s H vs Q E (hr.deeper _) hsp
  have I : Inv (cxOf CX P w K mg base N qual scope f cdv A outer s H E) [] (start N vs) H s1 := inv_start S hr.hd e0 hl r x
  refine wpAny_mono (ht [] s1 (start N vs) H _ I hq) (fun fl s' hs => ?_) fun e s' hs => hs
  have fin : ∀ {σ' : St} {H' : Hp} {v : V} {u : Value}, Inv (cxOf CX P w K mg base N qual scope f cdv A outer s H E) [] σ' H' s' → RelV v u → Q v H' → CE outer P w H s Q u s' :=
    fun {σ' H' v u} J rv q => ⟨v, H', J.os, J.bare, J.base, J.hok, rv, q⟩
  cases fl with
  | ret u =>
    obtain ⟨v, σ', H', J, rv, q⟩ := hs
    exact fin J rv q
  | next =>
    obtain ⟨σ', H', J, q⟩ := hs
    exact fin (v := V.non) (u := Value.none) J rfl q
  | brk =>
    obtain ⟨_, _, _, q⟩ := hs
    exact False.elim q
  | cont =>
    obtain ⟨_, _, _, q⟩ := hs
    exact False.elim q
end L2
namespace L2
open PySem PySem.Spec PyProof.Rows
section
variable {X : Cx} {x : Str} {p pos : Pos} {e : Expr} {es : List Expr} {t : TA} {id T : String} {r : List V → Hp → VK → Prop}
def tCB (r : List V → Hp → VK → Prop) (t : TA) : TE := fun σ H Q => t σ H fun vs H1 => r vs H1 Q
theorem pe_callB (hc : CallR X (.builtin id) r) (hg : Gl X x) (hm : X.mg x = none) (hv : bootBuiltins x = some (.builtin id)) (ha : PA X (e :: es) t) (hn : x ≠ "__name__" := by decide) (hdb : (x == ("__debug__" : Str)) = false := by decide)
    (he : starEach (e :: es) X.env = (false, eval e X.env) :: starEach es X.env := by rfl) (hpl : (backTo pos (starEach es X.env)).any (·.1) = false := by rfl) : PE X (.Call (.Name x p) (e :: es) [] pos) (tCB r t) := by
  intro pins s σ H Q I h
  refine wpAny_Call_Name_kw (ld_blt I hg hm hv ?_ hn hdb)
  exact PyProof.Rows.callWith_builtin1 (thn (ha pos pins s σ H _ I h) fun us s1 ⟨vs, H1, I1, r1, q1⟩ => hc pins s1 σ H1 vs us Q I1 r1 q1) he hpl
theorem pe_callTy (hc : CallR X (.type T) r) (hg : Gl X x) (hm : X.mg x = none) (hv : bootBuiltins x = some (.type T)) (ha : PA X (e :: es) t) (hn : x ≠ "__name__" := by decide) (hdb : (x == ("__debug__" : Str)) = false := by decide)
    (he : starEach (e :: es) X.env = (false, eval e X.env) :: starEach es X.env := by rfl) (hpl : (backTo pos (starEach es X.env)).any (·.1) = false := by rfl) : PE X (.Call (.Name x p) (e :: es) [] pos) (tCB r t) := by
  intro pins s σ H Q I h
  refine wpAny_Call_Name_kw (ld_blt I hg hm hv ?_ hn hdb)
  exact PyProof.Rows.callWith_type1 (thn (ha pos pins s σ H _ I h) fun us s1 ⟨vs, H1, I1, r1, q1⟩ => hc pins s1 σ H1 vs us Q I1 r1 q1) he hpl
end
end L2
namespace HT
open PySem PyProof.Rows
theorem eqAt_int (A : Around) (s : Shared) (a : Int) (t : Tok) (c : Int) (u : Tok) : ∃ e, SeqAt.EqAt A s (.int a t) (.int c u) e ∧ (e = true ↔ a = c) :=
  ⟨(a == c), SeqAt.EqAt.int_int a t c u, by simp⟩
section
open PySem.SeqAt
open PySem.AutoSeq1 (wpAny_loadPart')
open PySem.MeetsSeq PySem.MeetsSeq2 PySem.MeetsSeq3
end
section
variable {prog : Program} {w : World} {A : Around} {E : Value → Shared → Prop} {s : Shared}
def sIx (n d : Nat) : Option Int → Nat
  | none => d
  | some v => if v < 0 then (v + (n : Int)).toNat else min v.toNat n
theorem sIx_none (n d : Nat) : sIx n d none = d := rfl
theorem sIx_nat (n d k : Nat) : sIx n d (some (k : Int)) = min k n := by
  show (if (k : Int) < 0 then ((k : Int) + (n : Int)).toNat else min (k : Int).toNat n) = min k n
  rw [if_neg (by omega), Int.toNat_natCast]
theorem sIx_le (n d : Nat) (hd : d ≤ n) (o : Option Int) : sIx n d o ≤ n := by
  cases o with
  | none => exact hd
  | some v =>
    show (if v < 0 then (v + (n : Int)).toNat else min v.toNat n) ≤ n
    by_cases hv : v < 0
    · rw [if_pos hv]; omega
    · rw [if_neg hv]; exact Nat.min_le_right _ _
theorem clip_eq (v : Int) (n d : Nat) : (if v < 0 then max (v + (n : Int)) 0 else min v (n : Int)) = ((sIx n d (some v) : Nat) : Int) := by
  show (if v < 0 then max (v + (n : Int)) 0 else min v (n : Int)) = (((if v < 0 then (v + (n : Int)).toNat else min v.toNat n) : Nat) : Int)
  by_cases hv : v < 0
  · simp only [if_pos hv]; omega
  · simp only [if_neg hv]; omega
theorem adjust_gen (lo hi : Option Int) (n : Nat) : Builtin.Slice.sliceAdjust lo hi 1 (n : Int) = (((sIx n 0 lo : Nat) : Int), ((sIx n n hi : Nat) : Int)) := by
  have h1 : ¬ ((1 : Int) < 0) := by omega
  unfold Builtin.Slice.sliceAdjust
  simp only [h1, if_false]
  refine Prod.ext ?_ ?_
  · cases lo with
    | none => rfl
    | some v => exact clip_eq v n 0
  · cases hi with
    | none => rfl
    | some v => exact clip_eq v n n
theorem places_gen (i j : Nat) : Builtin.Slice.slicePlaces (i : Int) (j : Int) 1 = j - i := by
  unfold Builtin.Slice.slicePlaces
  have h1 : (1 : Int) > 0 := by omega
  simp only [h1, if_true, Int.ediv_one]
  split <;> omega
theorem slicePart_ {v : Value} {o : Option Int} {Q : Option Int → Shared → Prop} (p : IsPart v o) (h : Q o s) : wpAny (model prog w) A (Builtin.Slice.slicePartIndex v) Q E s := by
  cases p with
  | none => exact slicePart_none h
  | int i t => exact slicePart_int h
theorem sliceApplied_gen {sl : Addr} {vl vu : Value} {lo hi : Option Int} {n : Nat} {Q : Int × Int × Nat → Shared → Prop} (hs : s.heap.IsSliceOf sl vl vu .none) (pl : IsPart vl lo) (pu : IsPart vu hi)
    (h : Q (((sIx n 0 lo : Nat) : Int), 1, sIx n n hi - sIx n 0 lo) s) : wpAny (model prog w) A (Builtin.Slice.sliceApplied (.ref sl) (pure (n : Int))) Q E s := by
  obtain ⟨os, hos, hcs, hds⟩ := id hs
  unfold Builtin.Slice.sliceApplied Builtin.Slice.sliceFields
  refine wpAny_bind (wpAny_bind (wpAny_field hos hds (x := vl) rfl (wpAny_bind (wpAny_field hos hds (x := vu) rfl (wpAny_bind (wpAny_field hos hds (x := .none) rfl (wpAny_pure ?_)))))))
  refine wpAny_bind (slicePart_none ?_)
  show wpAny _ _ (if ((1 : Int) == 0) = true then _ else _) _ _ s
  rw [if_neg (by decide)]
  refine wpAny_bind (slicePart_ pl (wpAny_bind (slicePart_ pu (wpAny_bind (wpAny_pure ?_)))))
  show wpAny _ _ (match Builtin.Slice.sliceAdjust lo hi 1 (n : Int) with | (lo, hi) => pure (lo, (1 : Int), Builtin.Slice.slicePlaces lo hi 1)) _ _ s
  rw [adjust_gen lo hi n]
  show wpAny _ _ (pure (((sIx n 0 lo : Nat) : Int), (1 : Int), Builtin.Slice.slicePlaces ((sIx n 0 lo : Nat) : Int) ((sIx n n hi : Nat) : Int) 1)) _ _ s
  rw [places_gen]
  exact wpAny_pure h
theorem pick_gen (xs : Array Value) (i k : Nat) : ((List.range k).filterMap fun (m : Nat) => xs[((i : Int) + (m : Int) * 1).toNat]?).toArray = ((xs.toList.drop i).take k).toArray := by
  have e : (fun (m : Nat) => xs[((i : Int) + (m : Int) * 1).toNat]?) = fun m => xs[i + m]? := by
    funext m
    have : ((i : Int) + (m : Int) * 1).toNat = i + m := by omega
    rw [this]
  rw [e]
  have := pick_run xs i k
  rw [List.filterMap_map] at this
  have e2 : ((fun x => xs[x]?) ∘ fun x => i + x) = fun m => xs[i + m]? := rfl
  rw [e2] at this
  rw [this]
theorem getItem_tuple_cut {t sl : Addr} {items : Array Value} {vl vu : Value} {lo hi : Option Int} {Q : Value → Shared → Prop} (ht : IsTup s.heap t items) (hs : s.heap.IsSliceOf sl vl vu .none) (pl : IsPart vl lo) (pu : IsPart vu hi)
    (hw : ¬ (sIx items.size 0 lo = 0 ∧ sIx items.size items.size hi = items.size))
    (h : Q (.ref s.heap.objs.size) { s with heap := s.heap.push { cls := .type "tuple", data := .seq ((items.toList.drop (sIx items.size 0 lo)).take (sIx items.size items.size hi - sIx items.size 0 lo)).toArray } })
    (hsz : items.size ≤ sizeLine) : wpAny (model prog w) A (getItem (.ref t) (.ref sl)) Q E s := by
  have htake : sizeOk (.seq ((items.toList.drop (sIx items.size 0 lo)).take (sIx items.size items.size hi - sIx items.size 0 lo)).toArray) := by
    show ((items.toList.drop (sIx items.size 0 lo)).take (sIx items.size items.size hi - sIx items.size 0 lo)).toArray.size ≤ sizeLine
    rw [List.size_toArray, List.length_take, List.length_drop, Array.length_toList]
    omega
  have hj : sIx items.size items.size hi ≤ items.size := sIx_le _ _ (Nat.le_refl _) hi
  obtain ⟨os, hos, hcs, hds⟩ := id hs
  have hTs : s.TypeIs (.ref sl) "slice" := ⟨os, hos, hcs⟩
  unfold getItem
  try with_reducible refine wpAny_holding ?_
  first | refine wpAny_bind (wpAny_pure ?_) | skip
  refine wpAny_bind (wpAny_sequenceKey ht.typeIs (by decide) ?_)
  refine wpAny_bind (wpAny_callSpecial?_slot (name := Str.ofString "__getitem__") ht.typeIs PyProof.Rows.slot_tuple_getitem
    (wpAny_call_entry PyProof.Rows.slot_tuple_getitem ht.typeIs entry_tuple_getitem ?_ (args_tuple_getitem _ _)))
  show wpAny _ _ (Builtin.Tuple.tupleItemsOf (.ref t) >>= _) _ _ s
  refine wpAny_bind (tupleItemsOf_ ht ?_)
  refine wpAny_bind (wpAny_typeOf hTs ?_)
  rw [if_pos (by decide)]
  refine wpAny_bind (sliceApplied_gen hs pl pu ?_)
  have hno : ¬ ((((sIx items.size 0 lo : Nat) : Int) == 0 && (1 : Int) == 1 && (sIx items.size items.size hi - sIx items.size 0 lo) == items.size) = true) := by
    intro q
    rw [Bool.and_eq_true, Bool.and_eq_true] at q
    have q1 : ((sIx items.size 0 lo : Nat) : Int) = 0 := eq_of_beq q.1.1
    have q2 : sIx items.size items.size hi - sIx items.size 0 lo = items.size := eq_of_beq q.2
    exact hw ⟨by omega, by omega⟩
  show wpAny _ _ (if (((sIx items.size 0 lo : Nat) : Int) == 0 && (1 : Int) == 1 && (sIx items.size items.size hi - sIx items.size 0 lo) == items.size) = true then _ else _) _ _ s
  rw [if_neg hno, pick_gen]
  first
    | exact wpAny_bind (m := Builtin.Tuple.tupleExact _) (wpAny_newObj_type (wpAny_pure ⟨_, rfl, wpAny_pure h⟩) htake)
    | exact wpAny_bind (m := Builtin.Tuple.tupleExact _) (wpAny_newObj_type (wpAny_bind (wpAny_pure (wpAny_pure ⟨_, rfl, wpAny_pure h⟩))) htake)
    | exact wpAny_bind (wpAny_bind (m := Builtin.Tuple.tupleExact _) (wpAny_newObj_type (wpAny_pure (wpAny_pure ⟨_, rfl, wpAny_pure h⟩)) htake))
    | exact wpAny_bind (wpAny_bind (m := Builtin.Tuple.tupleExact _) (wpAny_newObj_type (wpAny_pure ⟨_, rfl, wpAny_pure h⟩) htake))
end
end HT
namespace L2
open PySem PySem.Spec PyProof.Rows
abbrev TO := St → Hp → (Option Int → Hp → Prop) → Prop
def PO (X : Cx) (e : Option Expr) (t : TO) : Prop :=
  ∀ (pins : List (Addr × Obj)) (s : Shared) (σ : St) (H : Hp) (Q : Option Int → Hp → Prop), Inv X pins σ H s → t σ H Q →
    wpAny (model X.prog X.w) X.A (evalPart e X.env) (fun u s' => ∃ o H', Inv X pins σ H' s' ∧ IsPart u o ∧ Q o H') X.xe s
def tNoPart : TO := fun _ H Q => Q none H
def tPart (t : TE) : TO := fun σ H Q => t σ H fun x H1 => ∃ i, x = .int i ∧ Q (some i) H1
theorem intsAre_of {ns : List Int} : ∀ {us : List Value}, Vals (ns.map V.int) us → IntsAre us ns := by
  induction ns with
  | nil => intro us r; rw [List.map_nil] at r; cases r; exact .nil
  | cons n ns ih =>
    intro us r
    rw [List.map_cons] at r
    cases r with
    | cons r1 r2 =>
      obtain ⟨t, e⟩ := r1
      subst e
      exact .cons n t (ih r2)
section
variable {X : Cx} {e : Expr} {te : TE} {lo hi : Option Expr} {tl th : TO} {pos p2 : Pos}
theorem po_none : PO X none tNoPart := by
  intro pins s σ H Q I h
  rw [evalPart_none]
  exact wpAny_pure ⟨none, H, I, .none, h⟩
theorem po_some (h : PE X e te) : PO X (some e) (tPart te) := by
  intro pins s σ H Q I hw
  rw [evalPart_some]
  refine thn (h pins s σ H _ I hw) fun u s1 ⟨x, H1, I1, r1, q1⟩ => ?_
  obtain ⟨i, rfl, q⟩ := q1
  obtain ⟨t, rfl⟩ := r1
  exact ⟨some i, H1, I1, .int i t, q⟩
def SlR (X : Cx) (r : V → Option Int → Option Int → Hp → VK → Prop) : Prop :=
  ∀ (pins : List (Addr × Obj)) (s : Shared) (σ : St) (H : Hp) (x : V) (v vl vu : Value) (lo hi : Option Int) (sl : Addr) (Q : VK), Inv X pins σ H s → RelV x v → s.heap.IsSliceOf sl vl vu .none → IsPart vl lo → IsPart vu hi → r x lo hi H Q →
    ∃ T id, typeLookup (.type T) "__getitem__" = pure (some (.builtin id)) ∧ s.TypeIs v T ∧ wpAny (model X.prog X.w) X.A (getItem v (.ref sl)) (EP X pins σ Q) X.xe s
def tSl (r : V → Option Int → Option Int → Hp → VK → Prop) (te : TE) (tl th : TO) : TE := fun σ H Q => te σ H fun x H1 => tl σ H1 fun l H2 => th σ H2 fun u H3 => r x l u H3 Q
theorem pe_slice {r : V → Option Int → Option Int → Hp → VK → Prop} (hr : SlR X r) (he : PE X e te) (hl : PO X lo tl) (hu : PO X hi th) : PE X (.Subscript e (.Slice lo hi none p2) pos) (tSl r te tl th) := by
  intro pins s σ H Q I h
  refine Subscript_ (thn (he pins s σ H _ I h) fun v s1 ⟨x, H1, I1, r1, q1⟩ => ?_)
  refine wpAny_Slice (thn (hl pins s1 σ H1 _ I1 q1) fun vl s2 ⟨l, H2, I2, pl, q2⟩ => thn (hu pins s2 σ H2 _ I2 q2) fun vu s3 ⟨u, H3, I3, pu, q3⟩ => ?_)
  rw [evalPart_none]
  refine wpAny_pure ?_
  have I4 : Inv X pins σ H3 { s3 with heap := s3.heap.push { cls := .type "slice", data := .fields #[vl, vu, .none] } } := I3.kept (t' := s3.toks) fun b ob q => Heap.get?_push_of_some _ q
  obtain ⟨T, id, hT, ht, hg⟩ := hr pins { s3 with heap := s3.heap.push { cls := .type "slice", data := .fields #[vl, vu, .none] } } σ H3 x v vl vu l u s3.heap.objs.size Q I4 r1 (Heap.IsSliceOf.new ..) pl pu q3
  show wpAny (model X.prog X.w) X.A (subscriptTail e (.Slice lo hi none p2) v (.ref s3.heap.objs.size)) (EP X pins σ Q) X.xe { s3 with heap := s3.heap.push { cls := .type "slice", data := .fields #[vl, vu, .none] } }
  exact tail_any (ops := [.ref s3.heap.objs.size, v]) ht hT hg (by with_unfolding_all rfl)
def cutV (xs : List V) (lo hi : Option Int) : List V := (xs.drop (HT.sIx xs.length 0 lo)).take (HT.sIx xs.length xs.length hi - HT.sIx xs.length 0 lo)
theorem cutV_length (xs : List V) (lo hi : Option Int) : (cutV xs lo hi).length ≤ xs.length := by
  unfold cutV
  rw [List.length_take, List.length_drop]
  omega
def rSlT (K : PySem.W.Frag) : V → Option Int → Option Int → Hp → VK → Prop := fun x lo hi H Q => ∃ a xs, x = .ref a ∧ SqT K H a xs ∧
  ¬ (HT.sIx xs.length 0 lo = 0 ∧ HT.sIx xs.length xs.length hi = xs.length) ∧ ∀ p, H p = none → Q (.ref p) (upd H p (.tup (cutV xs lo hi)))
theorem sl_tup : SlR X (rSlT X.K) := by
  intro pins s σ H x v vl vu lo hi sl Q I rx hs pl pu h
  obtain ⟨a, xs, rfl, hx, hw, q⟩ := h
  cases rx
  obtain ⟨its, r, ht, hz⟩ := I.tuple hx
  have hlen : its.toArray.size = xs.length := by rw [List.size_toArray]; exact r.length.symm
  refine ⟨"tuple", _, PyProof.Rows.slot_tuple_getitem.lookup, ht.typeIs, ?_⟩
  refine HT.getItem_tuple_cut ht hs pl pu (by rw [hlen]; exact hw) ?_ (by rw [hlen]; exact hz)
  rw [hlen]
  refine ⟨.ref s.heap.objs.size, _, I.laid (t' := s.toks) (o := .tup (cutV xs lo hi)) (fun b ob q => Heap.get?_push_of_some _ q) (Nat.le_refl _) ?_, rfl, q _ (I.hok.fresh (Nat.le_refl _))⟩
  exact ⟨Nat.le_trans (cutV_length xs lo hi) hz, _, (r.drop (HT.sIx xs.length 0 lo)).take (HT.sIx xs.length xs.length hi - HT.sIx xs.length 0 lo), IsTup.new _ _⟩
end
end L2
namespace L2
open PySem PySem.Spec PyProof.Rows
def ixN (n : Nat) (i : Int) : Option Nat := if 0 ≤ i then (if i < n then some i.toNat else none) else if -(n : Int) ≤ i then some (i + n).toNat else none
def atI {α : Type} (xs : List α) (i : Int) : Option α := (ixN xs.length i).bind fun j => xs[j]?
theorem ixN_seq {n : Nat} {i : Int} {j : Nat} (h : ixN n i = some j) : seqIndex? i n = some j ∧ j < n ∧ -(n : Int) ≤ i ∧ i < n := by
  unfold ixN at h
  by_cases h0 : 0 ≤ i
  · rw [if_pos h0] at h
    by_cases h1 : i < n
    · rw [if_pos h1] at h
      have e : i.toNat = j := Option.some.inj h
      exact ⟨by rw [seqIndex_of h0 h1, e], by omega, by omega, h1⟩
    · rw [if_neg h1] at h; cases h
  · rw [if_neg h0] at h
    by_cases h1 : -(n : Int) ≤ i
    · rw [if_pos h1] at h
      have e : (i + n).toNat = j := Option.some.inj h
      exact ⟨by rw [seqIndex_neg (by omega) h1, e], by omega, h1, by omega⟩
    · rw [if_neg h1] at h; cases h
theorem atI_get {α : Type} {xs : List α} {i : Int} {v : α} (h : atI xs i = some v) : ∃ j, seqIndex? i xs.length = some j ∧ xs[j]? = some v ∧ j < xs.length ∧ -(xs.length : Int) ≤ i ∧ i < xs.length := by
  unfold atI at h
  cases e : ixN xs.length i with
  | none => rw [e] at h; cases h
  | some j =>
    rw [e] at h
    obtain ⟨h1, h2, h3, h4⟩ := ixN_seq e
    exact ⟨j, h1, h, h2, h3, h4⟩
theorem atI_nat {α : Type} {xs : List α} {j : Nat} {v : α} (h : xs[j]? = some v) : atI xs (j : Int) = some v := by
  have hj : j < xs.length := (List.getElem?_eq_some_iff.mp h).1
  have e : ixN xs.length (j : Int) = some j := by
    unfold ixN
    rw [if_pos (by omega), if_pos (by omega)]; simp
  unfold atI; rw [e]; exact h
def PlainIx (b : Expr) : Prop := ∀ o i, subscripted b false o i = operate [o, i] (getItem o i)
def IxR (X : Cx) (r : R2) : Prop :=
  ∀ (value slice : Expr) (pins : List (Addr × Obj)) (s : Shared) (σ : St) (H : Hp) (x y : V) (v u : Value) (Q : VK), Inv X pins σ H s → RelV x v → RelV y u → r x y H Q →
    subscripted slice false v u = operate [v, u] (getItem v u) → wpAny (model X.prog X.w) X.A (subscriptTail value slice v u) (EP X pins σ Q) X.xe s
def MtR (X : Cx) (id : String) (r : V → List V → Hp → VK → Prop) : Prop :=
  ∀ (pins : List (Addr × Obj)) (s : Shared) (σ : St) (H : Hp) (x : V) (xs : List V) (v : Value) (us : List Value) (Q : VK), Inv X pins σ H s → RelV x v → Vals xs us → r x xs H Q →
    wpAny (model X.prog X.w) X.A (call (.builtin id) (v :: us)) (EP X pins σ Q) X.xe s
section
variable {X : Cx} {a b : Expr} {ta tb : TE} {pos : Pos}
theorem pe_ix {r : R2} (hr : IxR X r) (ha : PE X a ta) (hb : PE X b tb) (hs : PlainIx b) : PE X (.Subscript a b pos) (tOp r ta tb) := by
  intro pins s σ H Q I h
  exact Subscript_ (binT ha hb I h fun v u s2 x y H2 I2 rx ry q => hr a b pins s2 σ H2 x y v u Q I2 rx ry q (hs _ _))
def rIxL (K : PySem.W.Frag) : R2 := fun x y H Q => ∃ p xs i v, x = .ref p ∧ y = .int i ∧ SqL K H p xs ∧ atI xs i = some v ∧ Q v H
def rIxT (K : PySem.W.Frag) : R2 := fun x y H Q => ∃ p xs i v, x = .ref p ∧ y = .int i ∧ SqT K H p xs ∧ atI xs i = some v ∧ Q v H
def rIxS : R2 := fun x y H Q => ∃ z i c, x = .str z ∧ y = .int i ∧ z.length ≤ sizeLine ∧ atI z.cps.toList i = some c ∧ Q (.str ⟨#[c]⟩) H
theorem ix_list : IxR X (rIxL X.K) := by
  intro value slice pins s σ H x y v u Q I rx ry h hs
  obtain ⟨p, xs, i, z, rfl, rfl, hq, he, q⟩ := h
  cases rx
  obtain ⟨t, rfl⟩ := ry
  obtain ⟨its, r, pl, hz⟩ := I.list hq
  obtain ⟨j, h1, h2, h3, h4, h5⟩ := atI_get he
  obtain ⟨w, ew, rw'⟩ := r.get h2
  have hl := r.length
  have hn := line63
  have fin : EP X pins σ Q w s := ⟨z, H, I, rw', q⟩
  by_cases h0 : 0 ≤ i
  · have hj : i.toNat = j := by
      rw [seqIndex_of h0 h5] at h1
      exact Option.some.inj h1
    exact item_listR pl.isList h0 (by omega) (by rw [hj]; simpa using ew) fin hs
  · have hj : (i + (its.toArray.size : Int)).toNat = j := by
      rw [seqIndex_neg (by omega) h4] at h1
      rw [List.size_toArray, ← hl]
      exact Option.some.inj h1
    exact subscriptTail_builtinR (x := w) pl.isList.typeIs slot_list_getitem.lookup
      (wpAny_getItem_list_neg (Q := fun r s' => r = w ∧ EP X pins σ Q r s') pl.isList (by omega) (by rw [List.size_toArray] <;> omega) (by omega) (by rw [hj]; simpa using ew) ⟨rfl, fin⟩) hs
theorem ix_tup : IxR X (rIxT X.K) := by
  intro value slice pins s σ H x y v u Q I rx ry h hs
  obtain ⟨p, xs, i, z, rfl, rfl, hq, he, q⟩ := h
  cases rx
  obtain ⟨t, rfl⟩ := ry
  obtain ⟨its, r, pl, hz⟩ := I.tuple hq
  obtain ⟨j, h1, h2, h3, h4, h5⟩ := atI_get he
  obtain ⟨w, ew, rw'⟩ := r.get h2
  have hl := r.length
  have hn := line63
  have fin : EP X pins σ Q w s := ⟨z, H, I, rw', q⟩
  exact subscriptTail_builtinR (x := w) pl.typeIs slot_tuple_getitem.lookup
    (getItem_tuple (j := j) (Q := fun r s' => r = w ∧ EP X pins σ Q r s') pl (by omega) (by omega) (by rw [List.size_toArray, ← hl]; exact h1) (by simpa using ew) ⟨rfl, fin⟩) hs
theorem ix_str : IxR X rIxS := by
  intro value slice pins s σ H x y v u Q I rx ry h hs
  obtain ⟨z, i, c, rfl, rfl, hz, he, q⟩ := h
  obtain ⟨t, rfl⟩ := rx
  obtain ⟨t', rfl⟩ := ry
  obtain ⟨j, h1, h2, h3, h4, h5⟩ := atI_get he
  have hl : z.cps.toList.length = z.length := by simp [Str.length]
  rw [hl] at h1 h4 h5
  have hn := line63
  exact tail_any (typeIs_str s z t) slot_str_getitem.lookup (getItem_str (c := c) (by
    have e1 : decide (i < -(2 ^ 63 : Int)) = false := decide_eq_false (by omega)
    have e2 : decide (i ≥ 2 ^ 63) = false := decide_eq_false (by omega)
    rw [e1, e2, Bool.or_false]) (by rw [h1]; simpa using h2) ⟨.str ⟨#[c]⟩, H, I.tok _, ⟨_, rfl⟩, q⟩) hs
theorem Inv.lst {pins : List (Addr × Obj)} {σ : St} {H : Hp} {s : Shared} {p : Addr} {xs : List V} (I : Inv X pins σ H s) (h : H p = some (.lst xs)) :
    ∃ (its : List Value) (n : Nat), Vals xs its ∧ s.heap.get? p = some { cls := .type "list", data := .seq its.toArray n } ∧ xs.length ≤ sizeLine := by
  obtain ⟨z, its, n, r, e⟩ := I.hok p _ h
  exact ⟨its, n, r, e, z⟩
theorem slice_bounds (lo hi : Option Int) (n : Nat) : (sliceBounds lo hi none n).1 = ((HT.sIx n 0 lo : Nat) : Int) ∧ (sliceBounds lo hi none n).2.1 = ((HT.sIx n n hi : Nat) : Int) ∧ (sliceBounds lo hi none n).2.2 = 1 := by
  refine ⟨?_, ?_, rfl⟩
  · cases lo with
    | none => simp [sliceBounds, HT.sIx]
    | some i =>
      simp only [sliceBounds, HT.sIx, Option.getD_none, show (1 : Int) > 0 by decide, if_true]
      by_cases h : i < 0
      · simp only [h, if_true] <;> omega
      · simp only [h, if_false] <;> omega
  · cases hi with
    | none => simp [sliceBounds, HT.sIx]
    | some i =>
      simp only [sliceBounds, HT.sIx, Option.getD_none, show (1 : Int) > 0 by decide, if_true]
      by_cases h : i < 0
      · simp only [h, if_true] <;> omega
      · simp only [h, if_false] <;> omega
theorem slicePick_cut (its : List Value) (lo hi : Option Int) : slicePick its.toArray lo hi none = ((its.drop (HT.sIx its.length 0 lo)).take (HT.sIx its.length its.length hi - HT.sIx its.length 0 lo)).toArray := by
  obtain ⟨h1, h2, h3⟩ := slice_bounds lo hi its.toArray.size
  unfold slicePick
  rw [h1, h2, h3]
  simp only [sliceRange_one, pick_run, List.size_toArray] <;> rfl
def rSlL (K : PySem.W.Frag) : V → Option Int → Option Int → Hp → VK → Prop := fun x lo hi H Q => ∃ a xs, x = .ref a ∧ SqL K H a xs ∧ ∀ p, H p = none → Q (.ref p) (upd H p (.lst (cutV xs lo hi)))
theorem sl_list : SlR X (rSlL X.K) := by
  intro pins s σ H x v vl vu lo hi sl Q I rx hs pl pu h
  obtain ⟨a, xs, rfl, hx, q⟩ := h
  cases rx
  obtain ⟨its, r, ht, hz⟩ := I.list hx
  have hlen := r.length
  refine ⟨"list", _, slot_list_getitem.lookup, ht.isList.typeIs, ?_⟩
  refine wpAny_getItem_list_slice ht.isList hs pl pu .none (by simp) ?_ (by rw [List.size_toArray] <;> omega)
  rw [slicePick_cut, ← hlen]
  refine ⟨.ref s.heap.objs.size, _, I.laid (t' := s.toks) (o := .lst (cutV xs lo hi)) (fun b ob q => Heap.get?_push_of_some _ q) (Nat.le_refl _) ?_, rfl, q _ (I.hok.fresh (Nat.le_refl _))⟩
  exact ⟨Nat.le_trans (cutV_length xs lo hi) hz, _, 0, (r.drop (HT.sIx xs.length 0 lo)).take (HT.sIx xs.length xs.length hi - HT.sIx xs.length 0 lo), Heap.get?_push_size _ rfl⟩
def flatV : V → Bool
  | .non => true
  | .bl _ => true
  | .int _ => true
  | .str _ => true
  | _ => false
def eqV : V → V → Bool
  | .non, .non => true
  | .bl a, .bl b => a == b
  | .bl a, .int b => (if a then 1 else 0) == b
  | .int a, .bl b => a == (if b then 1 else 0)
  | .int a, .int b => a == b
  | .str a, .str b => a == b
  | _, _ => false
theorem eqAt_V {A : Around} {s : Shared} {y x : V} {u v : Value} (ry : RelV y u) (rx : RelV x v) (fy : flatV y = true) (fx : flatV x = true) : SeqAt.EqAt A s u v (eqV y x) := by
  cases y with
  | non =>
    cases ry
    cases x with
    | non => cases rx; exact SeqAt.EqAt.same _
    | bl b => cases rx; exact SeqAt.EqAt.none_bool b
    | int b => obtain ⟨t, rfl⟩ := rx; exact SeqAt.EqAt.none_int b t
    | str b => obtain ⟨t, rfl⟩ := rx; exact SeqAt.EqAt.none_str b t
    | _ => exact absurd (show false = true from fx) Bool.false_ne_true
  | bl a =>
    cases ry
    cases x with
    | non => cases rx; exact SeqAt.EqAt.bool_none a
    | bl b => cases rx; exact SeqAt.EqAt.bool_bool a b
    | int b => obtain ⟨t, rfl⟩ := rx; exact SeqAt.EqAt.bool_int a b t
    | str b => obtain ⟨t, rfl⟩ := rx; exact SeqAt.EqAt.bool_str a b t
    | _ => exact absurd (show false = true from fx) Bool.false_ne_true
  | int a =>
    obtain ⟨t', rfl⟩ := ry
    cases x with
    | non => cases rx; exact SeqAt.EqAt.int_none a t'
    | bl b => cases rx; exact SeqAt.EqAt.int_bool a t' b
    | int b => obtain ⟨t, rfl⟩ := rx; exact SeqAt.EqAt.int_int a t' b t
    | str b => obtain ⟨t, rfl⟩ := rx; exact SeqAt.EqAt.int_str a t' b t
    | _ => exact absurd (show false = true from fx) Bool.false_ne_true
  | str a =>
    obtain ⟨t', rfl⟩ := ry
    cases x with
    | non => cases rx; exact SeqAt.EqAt.str_none a t'
    | bl b => cases rx; exact SeqAt.EqAt.str_bool a t' b
    | int b => obtain ⟨t, rfl⟩ := rx; exact SeqAt.EqAt.str_int a t' b t
    | str b => obtain ⟨t, rfl⟩ := rx; exact SeqAt.EqAt.str_str a t' b t
    | _ => exact absurd (show false = true from fx) Bool.false_ne_true
  | _ => exact absurd (show false = true from fy) Bool.false_ne_true
def eqU (x : V) (u : Value) : Bool := match u with
  | .none => eqV .non x
  | .bool b => eqV (.bl b) x
  | .int i _ => eqV (.int i) x
  | .str z _ => eqV (.str z) x
  | _ => false
theorem eqU_of {x y : V} {u : Value} (r : RelV y u) (f : flatV y = true) : eqU x u = eqV y x := by
  cases y with
  | non => cases r; rfl
  | bl b => cases r; rfl
  | int i => obtain ⟨t, rfl⟩ := r; rfl
  | str z => obtain ⟨t, rfl⟩ := r; rfl
  | _ => exact absurd (show false = true from f) Bool.false_ne_true
theorem mem_eqAt {A : Around} {s : Shared} {x : V} {v : Value} (rx : RelV x v) (fx : flatV x = true) : ∀ {xs : List V} {us : List Value}, Vals xs us → xs.all flatV = true → ∀ u ∈ us, SeqAt.EqAt A s u v (eqU x u)
  | _, _, .nil, _ => fun u hu => by cases hu
  | y :: xs, u :: us, .cons r t, f => fun u' hu => by
    rw [List.all_cons, Bool.and_eq_true] at f
    rcases List.mem_cons.mp hu with rfl | hu
    · rw [eqU_of r f.1]; exact eqAt_V r rx f.1 fx
    · exact mem_eqAt rx fx t f.2 u' hu
theorem call_len_seq : CallR X (.builtin "len") (fun xs H Q => ∃ p ys, xs = [.ref p] ∧ (SqL X.K H p ys ∨ SqT X.K H p ys) ∧ Q (.int ys.length) H) := by
  intro pins s σ H xs us Q I r h
  obtain ⟨p, ys, rfl, hq, q⟩ := h
  obtain ⟨u, rfl, rx⟩ := vals1 r
  cases rx
  have hn := line63
  rcases hq with hq | hq
  · obtain ⟨its, r', pl, hz⟩ := I.list hq
    have hlen := r'.length
    exact Calls.call_len_list pl.isList (by simp only [List.size_toArray] <;> omega) ⟨.int ys.length, H, I.tok _, ⟨s.toks + 1, by rw [List.size_toArray, hlen]⟩, q⟩
  · obtain ⟨its, r', pl, hz⟩ := I.tuple hq
    have hlen := r'.length
    exact len_tuple pl (by simp only [List.size_toArray] <;> omega) ⟨.int ys.length, H, I.tok _, ⟨s.toks + 1, by rw [List.size_toArray, hlen]⟩, q⟩
theorem call_len_str : CallR X (.builtin "len") (fun xs H Q => ∃ z, xs = [.str z] ∧ z.length ≤ sizeLine ∧ Q (.int z.length) H) := by
  intro pins s σ H xs us Q I r h
  obtain ⟨z, rfl, hz, q⟩ := h
  obtain ⟨u, rfl, t, rfl⟩ := vals1 r
  have hn := line63
  exact len_str (by omega) ⟨.int z.length, H, I.tok _, ⟨_, rfl⟩, q⟩
theorem call_tuple_of : CallR X (.type "tuple") (fun xs H Q => ∃ p ys, xs = [.ref p] ∧ ((SqL X.K H p ys ∧ ∀ l, H l = none → Q (.ref l) (upd H l (.tup ys))) ∨ (SqT X.K H p ys ∧ Q (.ref p) H))) := by
  intro pins s σ H xs us Q I r h
  obtain ⟨p, ys, rfl, h⟩ := h
  obtain ⟨u, rfl, rx⟩ := vals1 r
  cases rx
  rcases h with ⟨hq, q⟩ | ⟨hq, q⟩
  · obtain ⟨its, r', pl, hz⟩ := I.list hq
    have hlen := r'.length
    refine call_tuple_list pl.isList (fun h' kp => ?_) (by simp only [List.size_toArray] <;> omega)
    have I1 : Inv X pins σ H { s with heap := h' } := I.kept (t' := s.toks) kp
    have I2 : Inv X pins σ (upd H h'.objs.size (.tup ys)) { s with heap := h'.push { cls := .type "tuple", data := .seq its.toArray } } :=
      I1.laid (t' := s.toks) (fun b o e => Heap.get?_push_of_some _ e) (Nat.le_refl _) (show ObjOk X.prog X.w _ _ _ (.tup ys) from ⟨hz, its, r', IsTup.new _ _⟩)
    exact ⟨.ref h'.objs.size, _, I2, rfl, q _ (I1.hok.fresh (Nat.le_refl _))⟩
  · obtain ⟨its, r', pl, hz⟩ := I.tuple hq
    exact call_tuple_same pl ⟨.ref p, H, I, rfl, q⟩
def tyV (K : PySem.W.Frag) (T : String) (x : V) (H : Hp) : Prop := match x with
  | .str _ => T = "str"
  | .int _ => T = "int"
  | .ref p => (T = "list" ∧ ∃ xs, SqL K H p xs) ∨ (T = "tuple" ∧ ∃ o, K.lookup p = some o ∧ o.cls = .type "tuple" ∧ o.dict = none) ∨
      (T = "dict" ∧ ((∃ kvs, H p = some (.dK kvs)) ∨ ∃ kvs, H p = some (.dT kvs))) ∨ (T = "set" ∧ ∃ S n, H p = some (.set S n))
  | _ => False
theorem tyV_is {pins : List (Addr × Obj)} {σ : St} {H : Hp} {s : Shared} {T : String} {x : V} {v : Value} (I : Inv X pins σ H s) (r : RelV x v) (ty : tyV X.K T x H) :
    s.TypeIs v T ∧ ∀ a, v = .ref a → ∃ ob, s.heap.get? a = some ob ∧ ob.dict = none := by
  cases x with
  | str z =>
    obtain ⟨t, rfl⟩ := r
    cases (show T = "str" from ty)
    exact ⟨typeIs_str s z t, fun _ e => nomatch e⟩
  | int i =>
    obtain ⟨t, rfl⟩ := r
    cases (show T = "int" from ty)
    exact ⟨typeIs_int s i t, fun _ e => nomatch e⟩
  | ref p =>
    cases r
    rcases ty with ⟨rfl, xs, hq⟩ | ⟨rfl, o, hk, hc, hd⟩ | ⟨rfl, hk⟩ | ⟨rfl, S, n, hk⟩
    · obtain ⟨its, _, pl, _⟩ := I.list hq
      refine ⟨pl.isList.typeIs, fun a e => ?_⟩
      cases e
      obtain ⟨o, n, e, c, hd, _⟩ := pl
      exact ⟨o, e, hd⟩
    · refine ⟨⟨o, I.kIn p o hk, hc⟩, fun a e => ?_⟩
      cases e
      exact ⟨o, I.kIn _ o hk, hd⟩
    · have z : ∃ o, s.heap.get? p = some o ∧ o.ExactDict := by
        rcases hk with ⟨kvs, hk⟩ | ⟨kvs, hk⟩
        · obtain ⟨_, _, _, _, o, _, _, e, ex, _⟩ := I.hok p _ hk
          exact ⟨o, e, ex⟩
        · obtain ⟨_, _, _, _, o, _, _, e, ex, _⟩ := I.hok p _ hk
          exact ⟨o, e, ex⟩
      obtain ⟨o, e, ex⟩ := z
      refine ⟨⟨o, e, ex.1⟩, fun a e2 => ?_⟩
      cases e2
      exact ⟨o, e, ex.2.1⟩
    · obtain ⟨o, _, _, _, e, ex, _⟩ := I.hok p _ hk
      refine ⟨⟨o, e, ex.1⟩, fun a e2 => ?_⟩
      cases e2
      exact ⟨o, e, ex.2.1⟩
  | _ => exact False.elim ty
def tBM (K : PySem.W.Frag) (T : String) (r : V → List V → Hp → VK → Prop) (to : TE) (t : TA) : TE := fun σ H Q => to σ H fun x H1 => tyV K T x H1 ∧ t σ H1 fun xs H2 => r x xs H2 Q
variable {o e : Expr} {es : List Expr} {to : TE} {t : TA} {name : Str} {apos cpos : Pos} {T id : String} {r : V → List V → Hp → VK → Prop}
theorem pe_bm (pa : PlainAttrs T) (slot : Slot T name id) (hty : typeOf (.builtin id) = pure (.type "method_descriptor")) (hm : MtR X id r) (ho : PE X o to) (ha : PA X (e :: es) t)
    (hbase : attributeBase o name X.env (eval o X.env) = eval o X.env := by rfl)
    (hfew : ((backTo cpos (starEach (e :: es) X.env)).all (fun x => !x.1) && (backToKw cpos (keywordEach [] X.env)).all (fun x => x.1.isSome)
      && decide ((e :: es).length + ([] : List Keyword).length + (if ([] : List Keyword).isEmpty then 0 else 1) < 30)) = true := by rfl)
    (hline : (apos.endLine == cpos.line) = true := by rfl) (hs : starEach (e :: es) X.env = (false, eval e X.env) :: starEach es X.env := by rfl) (hplain : (backTo cpos (starEach es X.env)).any (·.1) = false := by rfl) :
    PE X (.Call (.Attribute o name apos) (e :: es) [] cpos) (tBM X.K T r to t) := by
  intro pins s σ H Q I h
  refine wpAny_Call_method_late hbase hfew hline rfl (thn (ho pins s σ H _ I h) fun v s1 ⟨x, H1, I1, r1, ty, q1⟩ => ?_)
  obtain ⟨h1, h2⟩ := tyV_is I1 r1 ty
  refine ⟨T, id, pa, slot, hty, h1, h2, ?_⟩
  have hA := ha cpos pins s1 σ H1 _ I1 q1
  rw [hs] at hA ⊢
  refine Calls.callWith_builtin (by show (false || (backTo cpos (starEach es X.env)).any (·.1)) = false; rw [hplain] <;> rfl) (Calls.evalArgs_plain ?_)
  exact thn hA fun us s2 ⟨vs, H2, I2, r2, q2⟩ => hm pins s2 σ H2 x vs v us Q I2 r1 r2 q2
end
end L2
namespace L2
open PySem PySem.Spec PyProof.Rows
def MtM (X : Cx) (id : String) (r : V → List V → Hp → VK → Prop) : Prop :=
  ∀ (pins : List (Addr × Obj)) (s : Shared) (σ : St) (H : Hp) (x : V) (xs : List V) (v : Value) (us : List Value) (Q : VK), Inv X pins σ H s → RelV x v → Vals xs us → r x xs H Q →
    wpAny (model X.prog X.w) X.A (call (.builtin id) (v :: us)) (EP X pins σ Q) X.xe s
theorem Vals.one : ∀ {x : V} {us : List Value}, Vals [x] us → ∃ u, us = [u] ∧ RelV x u
  | _, _, .cons r .nil => ⟨_, rfl, r⟩
theorem Vals.zero : ∀ {us : List Value}, Vals [] us → us = []
  | _, .nil => rfl
theorem Vals.rep {xs : List V} {us : List Value} (h : Vals xs us) : ∀ k : Nat, Vals (List.replicate k xs).flatten (List.replicate k us).flatten
  | 0 => .nil
  | k + 1 => by
    rw [List.replicate_succ, List.replicate_succ, List.flatten_cons, List.flatten_cons]
    exact Vals.append h (Vals.rep h k)
section
variable {X : Cx} {pins : List (Addr × Obj)} {σ : St} {H : Hp} {s : Shared} {l b : Addr} {xs ys zs : List V}
theorem Inv.lset {its its' : List Value} {n : Nat} {f : Array Value → Array Value} {t' : Nat} (I : Inv X pins σ H s) (hH : H l = some (.lst xs))
    (e : s.heap.get? l = some { cls := .type "list", data := .seq its.toArray n }) (hf : f its.toArray = its'.toArray) (hv : Vals ys its') (hz : ys.length ≤ sizeLine) :
    Inv X pins σ (upd H l (.lst ys)) { s with heap := s.heap.update l (Obj.mapSeq f), toks := t' } := by
  have q := PySem.IsL.update e f
  rw [hf] at q
  refine I.write (x := l) (e := l) (by rw [hH]; exact trivial) (.inl rfl) (fun b' u hb hu => (Heap.get?_update_other s.heap (Obj.mapSeq f) (Ne.symm hb)).trans hu) ⟨_, q⟩ ?_
  exact ⟨hz, its', _, hv, q⟩
theorem Inv.lnew {its : List Value} {t' : Nat} (I : Inv X pins σ H s) (hv : Vals ys its) (hz : ys.length ≤ sizeLine) :
    Inv X pins σ (upd H s.heap.objs.size (.lst ys)) { s with heap := s.heap.push { cls := .type "list", data := .seq its.toArray }, toks := t' } :=
  I.laid (fun _ _ q => Heap.get?_push_of_some _ q) (Nat.le_refl _) ⟨hz, its, 0, hv, Heap.get?_push_size _ rfl⟩
theorem Inv.fresh (I : Inv X pins σ H s) : H s.heap.objs.size = none := I.hok.fresh (Nat.le_refl _)
theorem Inv.lstM (I : Inv X pins σ H s) (hH : H l = some (.lst xs)) : xs.length ≤ sizeLine ∧ ∃ (its : List Value) (n : Nat), Vals xs its ∧ xs.length = its.length ∧ s.heap.get? l = some { cls := .type "list", data := .seq its.toArray n } := by
  obtain ⟨z, its, n, r, e⟩ := I.hok l _ hH
  exact ⟨z, its, n, r, r.length, e⟩
end
section
variable {X : Cx}
def rAppend : V → List V → Hp → VK → Prop := fun x vs H Q => ∃ l xs y, x = .ref l ∧ vs = [y] ∧ H l = some (.lst xs) ∧ xs.length < sizeLine ∧ Q .non (upd H l (.lst (xs ++ [y])))
theorem mt_append : MtM X "list.append" rAppend := by
  intro pins s σ H x vs v us Q I rx rv h
  obtain ⟨l, xs, y, rfl, rfl, hH, hz, q⟩ := h
  cases rx
  obtain ⟨u, rfl, ru⟩ := rv.one
  obtain ⟨z, its, n, r, hl, e⟩ := I.lstM hH
  refine call_meets F.slot_list_append ⟨_, e, rfl⟩ F.entry_list_append (F.args_list_append_2 _ _) (PySem.list_append l its.toArray n u (by rw [List.size_toArray]; omega)) ⟨e, ?_⟩
  refine ⟨.non, _, I.lset (its' := its ++ [u]) hH e (by simp) (r.append (.cons ru .nil)) ?_, rfl, q⟩
  rw [List.length_append, List.length_singleton]
  omega
def rCat : R2 := fun x y H Q => ∃ l b xs zs, x = .ref l ∧ y = .ref b ∧ H l = some (.lst xs) ∧ H b = some (.lst zs) ∧ xs.length + zs.length ≤ sizeLine ∧ ∀ p, H p = none → Q (.ref p) (upd H p (.lst (xs ++ zs)))
theorem op_cat : OpR X (binaryOp .Add) rCat := by
  intro pins s σ H x y v u Q I rx ry h
  obtain ⟨l, b, xs, zs, rfl, rfl, hH, hB, hz, q⟩ := h
  cases rx
  cases ry
  obtain ⟨z, its, n, r, hl, e⟩ := I.lstM hH
  obtain ⟨z2, its2, n2, r2, hl2, e2⟩ := I.lstM hB
  refine PySem.P.add_list e e2 ?_ (by rw [List.size_toArray, List.size_toArray]; omega)
  have ea : its.toArray ++ its2.toArray = (its ++ its2).toArray := by simp
  rw [ea]
  exact ⟨.ref _, _, I.lnew (t' := s.toks) (r.append r2) (by rw [List.length_append]; omega), rfl, q _ I.fresh⟩
end
section
variable {prog : Program} {w : World} {A : Around} {E : Value → Shared → Prop} {s : Shared}
end
section
variable {X : Cx}
end
end L2
namespace L2
open PySem PySem.Spec PyProof.Rows
section
variable {κ : Type} [DecidableEq κ]
def valV (kvs : List (κ × V)) (k : κ) : Option V := (kvs.find? fun kv => decide (kv.1 = k)).map (·.2)
def putK (kvs : List (κ × V)) (k : κ) (v : V) : List (κ × V) :=
  if (kvs.any fun kv => decide (kv.1 = k)) = true then kvs.map (fun kv => if kv.1 = k then (kv.1, v) else kv) else kvs ++ [(k, v)]
def dropK (kvs : List (κ × V)) (k : κ) : List (κ × V) := kvs.filter fun kv => decide (kv.1 ≠ k)
theorem valV_pos {p : κ × V} {r : List (κ × V)} {k : κ} (e : p.1 = k) : valV (p :: r) k = some p.2 := by simp [valV, List.find?_cons, e]
theorem valV_neg {p : κ × V} {r : List (κ × V)} {k : κ} (e : ¬ p.1 = k) : valV (p :: r) k = valV r k := by simp [valV, List.find?_cons, e]
theorem valV_any (k : κ) : ∀ kvs : List (κ × V), (kvs.any fun kv => decide (kv.1 = k)) = (valV kvs k).isSome
  | [] => rfl
  | p :: r => by
    rw [List.any_cons]
    by_cases e : p.1 = k
    · simp only [valV_pos e, decide_eq_true e, Bool.true_or, Option.isSome_some]
    · rw [valV_neg e, decide_eq_false e, Bool.false_or]; exact valV_any k r
theorem RelO.isSome_eq {o : Option V} {u : Option Value} (r : RelO o u) : o.isSome = u.isSome := by
  cases o with
  | none => cases u with
    | none => rfl
    | some _ => exact (show False from r).elim
  | some _ => cases u with
    | none => exact (show False from r).elim
    | some _ => rfl
theorem RelO.getD {o : Option V} {u : Option Value} {d : V} {d' : Value} (r : RelO o u) (rd : RelV d d') : RelV (o.getD d) (u.getD d') := by
  cases o with
  | none => cases u with
    | none => exact rd
    | some _ => exact (show False from r).elim
  | some _ => cases u with
    | none => exact (show False from r).elim
    | some _ => exact r
theorem KV.val {kvs : List (κ × V)} {vs : List (κ × Value)} (r : KV kvs vs) (k : κ) : RelO (valV kvs k) (valueAt vs k) := by
  unfold KV at r
  induction r with
  | nil => exact True.intro
  | @cons p q ps qs h t ih =>
    obtain ⟨h1, h2⟩ := h
    by_cases e : p.1 = k
    · have e' : q.1 = k := h1.symm.trans e
      have b : valueAt (q :: qs) k = some q.2 := by simp [valueAt, List.find?_cons, e']
      rw [valV_pos e, b]; exact h2
    · have e' : ¬ q.1 = k := fun z => e (h1.trans z)
      have b : valueAt (q :: qs) k = valueAt qs k := by simp [valueAt, List.find?_cons, e']
      rw [valV_neg e, b]; exact ih
theorem KV.any {kvs : List (κ × V)} {vs : List (κ × Value)} (r : KV kvs vs) (k : κ) : (kvs.any fun kv => decide (kv.1 = k)) = vs.any fun kv => decide (kv.1 = k) := by
  unfold KV at r
  induction r with
  | nil => rfl
  | cons h t ih => rw [List.any_cons, List.any_cons, ih, h.1]
theorem KV.repl {kvs : List (κ × V)} {vs : List (κ × Value)} (r : KV kvs vs) (k : κ) {y : V} {u : Value} (ry : RelV y u) :
    KV (kvs.map fun kv => if kv.1 = k then (kv.1, y) else kv) (vs.map fun kv => if kv.1 = k then (kv.1, u) else kv) := by
  unfold KV at r ⊢
  induction r with
  | nil => exact .nil
  | @cons p q ps qs h t ih =>
    rw [List.map_cons, List.map_cons]
    refine .cons ?_ ih
    obtain ⟨h1, h2⟩ := h
    by_cases e : p.1 = k
    · rw [if_pos e, if_pos (h1.symm.trans e)]; exact ⟨h1, ry⟩
    · rw [if_neg e, if_neg (fun z => e (h1.trans z))]; exact ⟨h1, h2⟩
theorem KV.put {kvs : List (κ × V)} {vs : List (κ × Value)} (r : KV kvs vs) (k : κ) {y : V} {u : Value} (ry : RelV y u) : KV (putK kvs k y) (stored vs k u) := by
  unfold putK stored
  rw [r.any k]
  by_cases e : (vs.any fun kv => decide (kv.1 = k)) = true
  · rw [if_pos e, if_pos e]; exact r.repl k ry
  · rw [if_neg e, if_neg e]; exact Paired.snoc r ⟨rfl, ry⟩
theorem KV.drop {kvs : List (κ × V)} {vs : List (κ × Value)} (r : KV kvs vs) (k : κ) : KV (dropK kvs k) (without vs k) := by
  unfold KV at r ⊢
  unfold dropK without
  induction r with
  | nil => exact .nil
  | @cons p q ps qs h t ih =>
    obtain ⟨h1, h2⟩ := h
    rw [List.filter_cons, List.filter_cons]
    by_cases e : p.1 = k
    · have a : ¬ decide (p.1 ≠ k) = true := by simp [e]
      have b : ¬ decide (q.1 ≠ k) = true := by simp [h1.symm.trans e]
      rw [if_neg a, if_neg b]; exact ih
    · have e' : ¬ q.1 = k := fun z => e (h1.trans z)
      have a : decide (p.1 ≠ k) = true := by simp [e]
      have b : decide (q.1 ≠ k) = true := by simp [e']
      rw [if_pos a, if_pos b]; exact .cons ⟨h1, h2⟩ ih
theorem KV.keys {kvs : List (κ × V)} {vs : List (κ × Value)} (r : KV kvs vs) : kvs.map (·.1) = vs.map (·.1) := by
  unfold KV at r
  induction r with
  | nil => rfl
  | cons h t ih => rw [List.map_cons, List.map_cons, ih, h.1]
theorem KV.length {kvs : List (κ × V)} {vs : List (κ × Value)} (r : KV kvs vs) : kvs.length = vs.length := Paired.length r
end
abbrev KT (H : Hp) : List (List Key × V) → List (List Key × Addr × Value) → Prop := Paired fun p q => p.1 = q.1 ∧ H q.2.1 = some (.tup (p.1.map kV)) ∧ RelV p.2 q.2.2
theorem KT.val {H : Hp} {kvs : List (List Key × V)} {xs : List (List Key × Addr × Value)} (r : KT H kvs xs) (k : List Key) : RelO (valV kvs k) ((atKey xs k).map (·.2)) := by
  induction r with
  | nil => exact True.intro
  | @cons p q ps qs h t ih =>
    obtain ⟨h1, _, h2⟩ := h
    by_cases e : p.1 = k
    · have e' : q.1 = k := h1.symm.trans e
      have b : atKey (q :: qs) k = some q.2 := by simp [atKey, List.find?_cons, e']
      rw [valV_pos e, b]; exact h2
    · have e' : ¬ q.1 = k := fun z => e (h1.trans z)
      have b : atKey (q :: qs) k = atKey qs k := by simp [atKey, List.find?_cons, e']
      rw [valV_neg e, b]; exact ih
theorem KT.repl {H : Hp} {kvs : List (List Key × V)} {xs : List (List Key × Addr × Value)} (r : KT H kvs xs) (k : List Key) {y : V} {u : Value} (ry : RelV y u) :
    KT H (kvs.map fun kv => if kv.1 = k then (kv.1, y) else kv) (xs.map (putAt k u)) := by
  induction r with
  | nil => exact .nil
  | @cons p q ps qs h t ih =>
    rw [List.map_cons, List.map_cons]
    refine .cons ?_ ih
    obtain ⟨h1, h2, h3⟩ := h
    unfold putAt
    by_cases e : p.1 = k
    · rw [if_pos e, if_pos (h1.symm.trans e)]; exact ⟨h1, h2, ry⟩
    · rw [if_neg e, if_neg (fun z => e (h1.trans z))]; exact ⟨h1, h2, h3⟩
theorem KT.put {H : Hp} {kvs : List (List Key × V)} {xs : List (List Key × Addr × Value)} (r : KT H kvs xs) (k : List Key) {b : Addr} {y : V} {u : Value} (hb : H b = some (.tup (k.map kV))) (ry : RelV y u) :
    KT H (putK kvs k y) (storedH xs k b u) := by
  have e : (kvs.any fun kv => decide (kv.1 = k)) = (atKey xs k).isSome := by
    rw [valV_any, (r.val k).isSome_eq, Option.isSome_map]
  unfold putK storedH
  rw [e]
  by_cases q : (atKey xs k).isSome = true
  · rw [if_pos q, if_pos q]; exact r.repl k ry
  · rw [if_neg q, if_neg q]; exact Paired.snoc r ⟨rfl, hb, ry⟩
theorem KT.keeps {H H' : Hp} {kvs : List (List Key × V)} {xs : List (List Key × Addr × Value)} (r : KT H kvs xs) (ht : ∀ b ys, H b = some (.tup ys) → H' b = some (.tup ys)) : KT H' kvs xs :=
  Paired.mapP r fun _ _ z => ⟨z.1, ht _ _ z.2.1, z.2.2⟩
section
variable {P : Program} {w : World} {H : Hp} {h : Heap} {a : Addr}
end
def DGet (H : Hp) (a : Addr) (y : V) (r : Option V) : Prop :=
  (∃ kvs k, Rd H a (.dK kvs) ∧ y = kV k ∧ r = valV kvs k) ∨ ∃ kvs k b, Rd H a (.dT kvs) ∧ y = .ref b ∧ H b = some (.tup (k.map kV)) ∧ r = valV kvs k
def DPut (H : Hp) (a : Addr) (y v : V) (H' : Hp) : Prop :=
  (∃ kvs k, H a = some (.dK kvs) ∧ y = kV k ∧ kvs.length < sizeLine ∧ H' = upd H a (.dK (putK kvs k v))) ∨
  ∃ kvs k b, H a = some (.dT kvs) ∧ y = .ref b ∧ H b = some (.tup (k.map kV)) ∧ kvs.length < sizeLine ∧ H' = upd H a (.dT (putK kvs k v))
theorem DGet.k {H : Hp} {a : Addr} {kvs : List (Key × V)} {k : Key} (e : H a = some (.dK kvs)) : DGet H a (kV k) (valV kvs k) := .inl ⟨kvs, k, .inl e, rfl, rfl⟩
theorem DGet.t {H : Hp} {a b : Addr} {kvs : List (List Key × V)} {k : List Key} (e : H a = some (.dT kvs)) (eb : H b = some (.tup (k.map kV))) : DGet H a (.ref b) (valV kvs k) := .inr ⟨kvs, k, b, .inl e, rfl, eb, rfl⟩
theorem DPut.k {H : Hp} {a : Addr} {kvs : List (Key × V)} {k : Key} {v : V} (e : H a = some (.dK kvs)) (hl : kvs.length < sizeLine) : DPut H a (kV k) v (upd H a (.dK (putK kvs k v))) := .inl ⟨kvs, k, e, rfl, hl, rfl⟩
theorem DPut.t {H : Hp} {a b : Addr} {kvs : List (List Key × V)} {k : List Key} {v : V} (e : H a = some (.dT kvs)) (eb : H b = some (.tup (k.map kV))) (hl : kvs.length < sizeLine) :
    DPut H a (.ref b) v (upd H a (.dT (putK kvs k v))) := .inr ⟨kvs, k, b, e, rfl, eb, hl, rfl⟩
section
variable {X : Cx} {pins : List (Addr × Obj)} {σ : St} {H : Hp} {s : Shared} {a : Addr} {y v : V} {u r : Value} {o : Option V} {A : Around} {E : Value → Shared → Prop}
theorem Inv.big (I : Inv X pins σ H s) : sysModules < s.heap.objs.size := by
  have h : mainGlobals < s.heap.objs.size := (I.mod.glob.keeps I.bk).lt
  exact Nat.lt_trans (by decide) h
end
section
variable {X : Cx} {pins : List (Addr × Obj)} {σ : St} {H : Hp} {s : Shared} {a : Addr} {kvs : List (Key × V)} {k : Key} {u : Value} {A : Around} {E : Value → Shared → Prop}
end
section
variable {X : Cx} {o i e value : Expr} {pos pos' tpos : Pos} {td ty tv : TE}
end
section
variable {X : Cx} {pos : Pos}
end
structure M1 (X : Cx) (o : Expr) (m : Str) (apos : Pos) (e : Expr) (cpos : Pos) : Prop where
  base : attributeBase o m X.env (eval o X.env) = eval o X.env
  few : ((backTo cpos (starEach [e] X.env)).all (fun x => !x.1) && (backToKw cpos (keywordEach [] X.env)).all (fun x => x.1.isSome)
    && decide (([e] : List Expr).length + ([] : List Keyword).length + (if ([] : List Keyword).isEmpty then 0 else 1) < 30)) = true
  line : (apos.endLine == cpos.line) = true
  trees : backTo cpos (starEach [e] X.env) = [(false, eval e X.env)]
structure M2 (X : Cx) (o : Expr) (m : Str) (apos : Pos) (e f : Expr) (cpos : Pos) : Prop where
  base : attributeBase o m X.env (eval o X.env) = eval o X.env
  few : ((backTo cpos (starEach [e, f] X.env)).all (fun x => !x.1) && (backToKw cpos (keywordEach [] X.env)).all (fun x => x.1.isSome)
    && decide (([e, f] : List Expr).length + ([] : List Keyword).length + (if ([] : List Keyword).isEmpty then 0 else 1) < 30)) = true
  line : (apos.endLine == cpos.line) = true
  trees : backTo cpos (starEach [e, f] X.env) = [(false, eval e X.env), (false, eval f X.env)]
section
variable {X : Cx} {pins : List (Addr × Obj)} {σ : St} {H : Hp} {s : Shared} {a : Addr} {y d : V} {u r : Value} {o : Option V} {A : Around} {E : Value → Shared → Prop}
end
section
variable {X : Cx} {o e f : Expr} {apos cpos : Pos} {td ty tx : TE}
end
section
variable {X : Cx} {pins : List (Addr × Obj)} {σ : St} {H : Hp} {s : Shared} {a : Addr} {kvs : List (Key × V)} {A : Around} {E : Value → Shared → Prop}
end
section
variable {X : Cx} {pins : List (Addr × Obj)} {σ : St} {H : Hp} {s : Shared} {a : Addr} {y : V} {u : Value} {A : Around} {E : Value → Shared → Prop}
end
end L2
namespace Att
open PySem PySem.W PySem.Calls PyProof.Rows
theorem ints_of_wellAll {P : Params} {h : Heap} : ∀ (ns : List Int) (vs : List Value), WellAll P h vs (ns.map WData.int) → IntsAre vs ns := by
  intro ns
  induction ns with
  | nil =>
    intro vs w
    rw [List.map_nil] at w
    cases w
    exact .nil
  | cons n ns ih =>
    intro vs w
    rw [List.map_cons] at w
    cases w with
    | cons a b =>
      cases a
      exact .cons _ _ (ih _ b)
theorem script_of {l : OpenLaw} {n : Nat} (hn : l.most = some n) {P : Params} {h : Heap} {args : List WData} {vals : List Value}
    (hpre : l.row.toRowW.claim.pre args = true) (hwl : WellAll P h vals args) :
    ∃ a vs ns, vals = [Value.ref a] ∧ args = [WData.list (ns.map WData.int)] ∧ h.get? a = some { cls := .type "list", data := .seq vs.toArray } ∧ IntsAre vs ns ∧ ns.length ≤ n := by
  have hsh : WShape.hasAll [] args [.list .int] = true := (pre_splitW hpre).1
  have hc : l.pre.holds [] { args := args } = true := (pre_splitW hpre).2
  obtain ⟨d, r, rfl, h1, h2⟩ := hasAllW_cons hsh
  obtain rfl := hasAllW_nil h2
  obtain ⟨xs, rfl, h3⟩ := hasW_list h1
  obtain ⟨ns, rfl⟩ := items_int h3
  have hlen : ns.length ≤ n := by
    unfold OpenLaw.pre at hc
    have h4 : (WTm.not (.lt (.lit (.int (n : Int))) (.len (.arg 0)))).holds [] { args := [.list (ns.map .int)] } = true := by
      have h4 := (holds_andW hc).1
      rw [hn] at h4
      exact h4
    have h5 := condW_of h4 (w_not (w_lt w_lit (w_len_list (w_arg rfl))))
    rw [List.length_map] at h5
    refine Nat.le_of_not_lt fun q => ?_
    have q' : (n : Int) < ((ns.length : Nat) : Int) := by omega
    first
      | (rw [decide_eq_true q'] at h5; exact absurd h5 (by decide))
      | (simp at h5; omega)
  cases hwl with
  | cons w1 w2 =>
    cases w2
    cases w1 with
    | list ho hall => exact ⟨_, _, ns, rfl, rfl, ho, ints_of_wellAll ns _ hall, hlen⟩
theorem post_true (l : OpenLaw) (args : List WData) : l.row.toRowW.claim.post args (.bool true) args = true :=
  postW_of (r := l.row.toRowW) (X := (true == true))
    (show WShape.has [] (.bool true) .bool = true by first | rfl | decide | simp [WShape.has, WShape.arms, WShape.armsAll])
    (show (WTm.eq .res (.lit (.bool true))).value [] { args := args, res := some (.bool true), after := args } = some (.bool (true == true)) from w_eq_bool (w_res rfl) w_lit) rfl
theorem attach_call {l : OpenLaw} {n : Nat} {q : Program} {loose : List Str} {XP : (Str → Option Value) → Heap → Prop} {YP : World → Heap → Prop} {d : DefRec}
    (hn : l.most = some n) (hdf : d.params.defaults = [])
    (call : ∀ (w : World) (s₀ s₁ : Shared) (mg mb : Str → Option Value) (fa : Addr) (o : Obj) (pm cd doc : Value) (a : Addr) (vs : List Value) (ns : List Int),
      Ground q loose [] XP w s₀ mg mb s₁.heap → YP w s₁.heap →
      s₁.heap.get? fa = some o → o.data = .func (docDef d.name d.params d.body d.scope pm cd doc) → s₁.heap.CodeRec cd d.name → mg d.name = some (.ref fa) →
      s₁.heap.get? a = some { cls := .type "list", data := .seq vs.toArray } → IntsAre vs ns → ns.length ≤ n → s₁.gens = #[] →
      codeAny (model l.prog w) callerA (.call (.ref fa) ⟨[.ref a], []⟩) (fun r s' => r = .ok (.ret (.bool true)) ∧ OldK s₁.heap s'.heap ∧ s'.os = s₁.os ∧ AllBare s'.gens) s₁) :
    WalkO q loose XP YP l.row.toRowW d [] (fun f vs => PySem.call f vs) := by
  intro w s₀ s₁ mg mb G Y fa o pm cd doc dV kV ho hd hcd hD hmg hg args vals as hpre hlay hrd hwl hlo
  obtain rfl : dV = .none := Dflts.none hD hdf
  obtain rfl : kV = .none := Dflts.noKw hD
  obtain ⟨a, vs, ns, rfl, rfl, hobj, hints, hlen⟩ := script_of hn hpre hwl
  refine enter_call (codeAny_mono (call w s₀ s₁ mg mb fa o pm cd doc a vs ns G Y ho (fd_plain hd) hcd hmg hobj hints hlen hg) fun r s' hq => ?_)
  obtain ⟨rfl, h2, h3, h4⟩ := hq
  exact ⟨.inl ⟨.bool true, .bool true, [], rfl, fun _ => rfl, .bool true, post_true l _, fun _ => ⟨List.Pairwise.nil, fun _ hm => (nomatch hm)⟩⟩, h2, h3, h4⟩
section
variable {prog : Program} {w : World} {A : Around} {E : Value → Shared → Prop} {s : Shared} {K : Frag}
end
end Att
namespace L2
open PySem PySem.Spec PyProof.Rows
theorem vals_ints : ∀ {vs : List Value} {ns : List Int}, IntsAre vs ns → Vals (ns.map V.int) vs
  | _, _, .nil => .nil
  | _, _, .cons n t h => .cons ⟨t, rfl⟩ (vals_ints h)
def Only (H : Hp) : Prop := ∀ b, H b = none ∨ ∃ o xs, H b = some (.frz o (.lst xs))
theorem law_call {P : Program} {w : World} {K : PySem.W.Frag} {mg mb : Str → Option Value} {CX : CXT} {k : Nat} {fa a : Addr} {fd : FuncData} {x : Str} {sp : Sp} {s₁ : Shared} {vs : List Value} {ns : List Int}
    (KX : K.In s₁.heap) (hns : s₁.heap.Ns mainGlobals mg) (hb : s₁.heap.Ns builtinsNs mb) (hbb : ∀ x : Str, x ≠ "__name__" → mb x = bootBuiltins x) (hlim : s₁.heap.NoLimit) (hg : s₁.gens = #[])
    (ha : s₁.heap.get? a = some { cls := .type "list", data := .seq vs.toArray }) (hi : IntsAre vs ns) (hl : ns.length ≤ sizeLine) (hr : Room k callerA)
    (F : ∀ base : Heap, K.In base → base.Ns mainGlobals mg → FnOk P w K mg base CX k fa fd [x] sp) (hbind : ∀ (s : Shared) (u : Value), BindsTo s fd ⟨[u], []⟩ [(x, u)])
    (hsp : ∀ H : Hp, Only H → SqL K H a (ns.map V.int) → sp [.ref a] H (fun v _ => v = .bl true) fun _ _ _ => False)
    (hCX : ∀ H e s', CX [] H s₁ (fun _ _ _ => False) e s' → False) :
    codeAny (model P w) callerA (.call (.ref fa) ⟨[.ref a], []⟩) (fun r s' => r = .ok (.ret (.bool true)) ∧ OldK s₁.heap s'.heap ∧ s'.os = s₁.os ∧ AllBare s'.gens) s₁ := by
  have rv := vals_ints hi
  have lenV := hi.length
  -- from an abstract heap in which nothing but the script may be tracked
  have core : ∀ H : Hp, Only H → SqL K H a (ns.map V.int) → HOk P w H s₁.heap → (∀ b, H b ≠ none → b = a) → (H a ≠ none → K.lookup a = none) →
      codeAny (model P w) callerA (.call (.ref fa) ⟨[.ref a], []⟩) (fun r s' => r = .ok (.ret (.bool true)) ∧ OldK s₁.heap s'.heap ∧ s'.os = s₁.os ∧ AllBare s'.gens) s₁ := by
    intro H hO hS hok hA hK
    have base_of : ∀ {b : Addr} {o : Obj}, s₁.heap.get? b = some o → H b = none → (hidT s₁.heap H).get? b = some o := fun e n => hidT_get e n
    have noA : ∀ {b : Addr} {o : Obj} {es : Array DictEntry} {ep : Nat}, s₁.heap.get? b = some o → o.data = .dict es ep → H b = none := fun {b o es ep} e d => by
      cases q : H b with
      | none => rfl
      | some u =>
        have e' : b = a := hA b (by rw [q]; simp)
        subst e'
        rw [ha] at e; cases e
        have d' : Data.seq vs.toArray _ = Data.dict es ep := d
        cases d'
    have nsK : ∀ {b : Addr} {m : Str → Option Value}, s₁.heap.Ns b m → (hidT s₁.heap H).Ns b m := fun {b m} ⟨o, es, ep, e, d, r⟩ => ⟨o, es, ep, base_of e (noA e d), d, r⟩
    have hKb : K.In (hidT s₁.heap H) := fun b o e => base_of (KX b o e) (by
      cases q : H b with
      | none => rfl
      | some u =>
        have e' : b = a := hA b (by rw [q]; simp)
        subst e'
        rw [hK (by rw [q]; simp)] at e; cases e)
    have hM : Mod K mg (hidT s₁.heap H) := ⟨hKb, nsK hns, ⟨mb, nsK hb, hbb⟩, let ⟨mc, h1, h2⟩ := hlim; ⟨mc, nsK h1, h2⟩⟩
    have e0 : Env0 P w K mg (hidT s₁.heap H) callerA [] s₁ H := ⟨rfl, hM, fun b o e => of_hidT e, Nat.le_of_eq (hidT_size _ _), trivial, fun b hb => absurd (show b ∈ ([] : List Addr) from hb) (by simp), hok, .of_eq hg⟩
    refine codeAny_mono ((F _ hKb (nsK hns)).run callerA [] s₁ H ⟨[.ref a], []⟩ [.ref a] [.ref a] _ _ hr e0 (hbind s₁ (.ref a)) (.cons rfl .nil) (hsp H hO hS)) fun r s' h => ?_
    cases r with
    | error e => exact (hCX H e s' h).elim
    | ok fl =>
      cases fl with
      | next => exact False.elim h
      | brk => exact False.elim h
      | cont => exact False.elim h
      | ret u =>
        obtain ⟨v, H', os, bare, un, hok', r', q⟩ := h
        have q' : v = .bl true := q
        subst q'
        obtain rfl : u = Value.bool true := r'
        refine ⟨rfl, OldK.of_keep fun b o e => ?_, os, bare⟩
        cases q : H b with
        | none => exact un.keep b o e q (by intro z; exact absurd (show b ∈ ([] : List Addr) from z) (by simp)) (by simp)
        | some u =>
          rcases hO b with z | ⟨ob, xs, z⟩
          · rw [q] at z; cases z
          · have z2 := un.frzs b ob _ z
            obtain ⟨e1, _⟩ := hok b _ z
            obtain ⟨e2, _⟩ := hok' b _ z2
            rw [e] at e1; cases e1
            exact e2
  cases hk : K.lookup a with
  | some o =>
    -- the script is one of the module's own objects
    have e := KX a o hk
    rw [ha] at e
    cases e
    refine core (fun _ => none) (fun _ => .inl rfl) (.inr ⟨_, vs.toArray, _, hk, rfl, rfl, rfl, by rw [List.size_toArray, lenV]; exact hl, by simpa using rv⟩) (fun b u z => by have z' : (none : Option HO) = some u := z; cases z') (fun b z => absurd rfl z) fun z => absurd rfl z
  | none =>
    refine core (fun b => if b = a then some (.frz { cls := .type "list", data := .seq vs.toArray } (.lst (ns.map V.int))) else none) (fun b => ?_) (.inl (.inr ⟨{ cls := .type "list", data := .seq vs.toArray }, if_pos rfl⟩)) (fun b u z => ?_) (fun b z => ?_) fun _ => hk
    · by_cases hb : b = a
      · exact .inr ⟨_, _, if_pos hb⟩
      · exact .inl (if_neg hb)
    · by_cases hb : b = a
      · have z' := (if_pos hb).symm.trans z
        cases z'
        subst hb
        exact ⟨ha, by rw [List.length_map]; exact hl, vs, _, rv, ha⟩
      · have z' := (if_neg hb).symm.trans z
        cases z'
    · by_cases hb : b = a
      · exact hb
      · exact absurd (if_neg hb) z
end L2
namespace L2
open PySem PySem.Spec PyProof.Rows
theorem walk_of {l : PySem.W.OpenLaw} {n k : Nat} {q : Program} {loose : List Str} {XP : (Str → Option Value) → Heap → Prop} {YP : World → Heap → Prop} {d : DefRec} {K : Params → PySem.W.Frag} {CX : World → CXT} {sp : World → Sp} {x : Str}
    (hn : l.most = some n) (hn2 : n ≤ sizeLine) (hdf : d.params.defaults = []) (hr : Room k callerA)
    (hY : ∀ (w : World) (h : Heap), YP w h → (K w.params).In h)
    (F : ∀ (w : World) (mg : Str → Option Value) (fa : Addr) (h : Heap), (K w.params).In h → h.Ns mainGlobals mg → mg d.name = some (.ref fa) →
      ∃ fd : FuncData, (∀ (s : Shared) (u : Value), BindsTo s fd ⟨[u], []⟩ [(x, u)]) ∧
        ∀ base : Heap, (K w.params).In base → base.Ns mainGlobals mg → FnOk l.prog w (K w.params) mg base (CX w) k fa fd [x] (sp w))
    (hsp : ∀ (w : World) (H : Hp) (a : Addr) (ns : List Int), ns.length ≤ n → Only H → SqL (K w.params) H a (ns.map V.int) → sp w [.ref a] H (fun v _ => v = .bl true) fun _ _ _ => False)
    (hCX : ∀ (w : World) (H : Hp) (s : Shared) (e : Value) (s' : Shared), CX w [] H s (fun _ _ _ => False) e s' → False) :
    PySem.W.WalkO q loose XP YP l.row.toRowW d [] (fun f vs => PySem.call f vs) := by
  refine Att.attach_call hn hdf fun w s₀ s₁ mg mb fa o pm cd doc a vs ns G Y ho hd hcd hmg hobj hints hlen hg => ?_
  have KX := hY w _ Y
  obtain ⟨fd, hb, hF⟩ := F w mg fa _ KX G.T.g hmg
  exact law_call KX G.T.g G.T.b G.T.builtins G.T.nolimit hg hobj hints (Nat.le_trans hlen hn2) hr hF hb (fun H hO hS => hsp w H a ns hlen hO hS) fun H e s' => hCX w H s₁ e s'
end L2
namespace L2
open PySem PySem.Spec PyProof.Rows
def defArgs (s : Stmt) : Arguments := match s with
  | .FunctionDef _ a _ _ _ _ _ _ _ _ => a
  | _ => { posonlyargs := [], args := [], vararg := none, kwonlyargs := [], kw_defaults := [], kwarg := none, defaults := [] }
def defBody (s : Stmt) : List Stmt := match s with
  | .FunctionDef _ _ b _ _ _ _ _ _ _ => b
  | _ => []
def defScope (s : Stmt) : Scope := match s with
  | .FunctionDef _ _ _ _ _ _ sc _ _ _ => sc
  | _ => { kind := .function, names := [], isGenerator := false, isCoroutine := false }
abbrev CX0 : CXT := fun _ _ _ _ _ _ => False
abbrev E0 : XK := fun _ _ _ => False
structure Fun (K : PySem.W.Frag) (x qual : Str) (st : Stmt) (f : Addr) (fd : FuncData) : Prop where
  ex : ∃ (oc : Value) (od : Option Addr) (kV doc pm : Value) (an : Option Addr) (cdv ct : Value) (osl : Array (Option Value)),
    fd = PySem.W.fnOf x qual (defArgs st) (defBody st) (defScope st) .none kV doc pm an cdv ct ∧ K.lookup f = some ⟨oc, od, .func fd, osl⟩ ∧ PySem.W.codeIn K cdv qual = true
  kp : PySem.W.keepIn K (.ref f) = true
section
variable {P : Program} {w : World} {K : PySem.W.Frag} {mg : Str → Option Value} {base : Heap}
theorem Fun.ok {x qual : Str} {st : Stmt} {f : Addr} {fd : FuncData} {N ps : List Str} {k : Nat} {sp : Sp} (F : Fun K x qual st f fd) (S : FnScope N ps (defScope st)) (len : ∀ vs H Q E, sp vs H Q E → vs.length = ps.length)
    (hbody : ∀ (cdv : Value) (A : Around) (outer : List Env) (s : Shared) (H : Hp) (vs : List V) (Q : VK) (E : XK), Room k (A.deeper (envOfC qual (defScope st) s.heap.objs.size f cdv)) → sp vs H Q E →
      ∃ t, PSs (cxOf CX0 P w K mg base N qual (defScope st) f cdv A outer s H E).nox (defBody st) t ∧ t { nx := fun _ H' => Q .non H', rt := Q } (start N vs) H) : FnOk P w K mg base CX0 (k + 1) f fd ps sp := by
  obtain ⟨oc, od, kV, doc, pm, an, cdv, ct, osl, rfl, lk, hcd⟩ := F.ex
  refine fn_of lk hcd S len fun A outer s H vs Q E hr hsp => ?_
  obtain ⟨t, h, q⟩ := hbody cdv A outer s H vs Q E hr hsp
  exact ⟨t, h.nox, q⟩
theorem Fun.binds {x qual : Str} {st : Stmt} {f : Addr} {fd : FuncData} {ps : List Str} (F : Fun K x qual st f fd)
    (h : ∀ (kV doc pm : Value) (an : Option Addr) (cdv ct : Value) (us : List Value), us.length = ps.length → bindArgs (PySem.W.fnOf x qual (defArgs st) (defBody st) (defScope st) .none kV doc pm an cdv ct) ⟨us, []⟩ = pure (ps.zip us)) : Binds K fd ps [] := by
  obtain ⟨oc, od, kV, doc, pm, an, cdv, ct, osl, rfl, lk, hcd⟩ := F.ex
  exact .all (h kV doc pm an cdv ct)
theorem fun_mk {x qual : Str} {st : Stmt} {f : Addr} {oc : Value} {od an : Option Addr} {osl : Array (Option Value)} {kV doc pm cdv ct : Value} (l : K.lookup f = some ⟨oc, od, .func (PySem.W.fnOf x qual (defArgs st) (defBody st) (defScope st) .none kV doc pm an cdv ct), osl⟩)
    (c : PySem.W.codeIn K cdv qual = true) (k : PySem.W.keepIn K (.ref f) = true) : Fun K x qual st f (PySem.W.fnOf x qual (defArgs st) (defBody st) (defScope st) .none kV doc pm an cdv ct) := ⟨⟨oc, od, kV, doc, pm, an, cdv, ct, osl, rfl, l, c⟩, k⟩
end
section
variable {X : Cx}
theorem pv (i : Nat) {x : Str} {pos : Pos} (hN : X.N[i]? = some x := by rfl) (hv : Vis X.env.scope x := by first | exact Or.inl rfl | exact Or.inr (Or.inl rfl) | exact Or.inr (Or.inr rfl)) (hd : (x == ("__debug__" : Str)) = false := by decide)
    (hcd : (x == ("__classdict__" : Str)) = false := by decide) : PE X (.Name x pos) (tVar i) := pe_var hN hv hd hcd
end
theorem iteF {A B : Prop} (h : B) : if false = true then A else B := by
  rw [if_neg Bool.false_ne_true]
  exact h
theorem iteT {A B : Prop} (h : A) : if true = true then A else B := by
  rw [if_pos rfl]
  exact h
theorem ite2 {c A B : Prop} [Decidable c] (h1 : c → A) (h2 : ¬ c → B) : if c then A else B := by
  by_cases h : c
  · rw [if_pos h]
    exact h1 h
  · rw [if_neg h]
    exact h2 h
theorem iteNS {c A B : Prop} [Decidable c] (hc : c) (h : B) : if (!decide c) = true then A else B := by
  rw [decide_eq_true hc]
  exact iteF h
def Same (H H' : Hp) : Prop := ∀ b o, H b = some o → H' b = some o
theorem Same.refl (H : Hp) : Same H H := fun _ _ h => h
theorem Same.trans {H H1 H2 : Hp} (a : Same H H1) (b : Same H1 H2) : Same H H2 := fun c o h => b c o (a c o h)
theorem Same.free {H H' : Hp} (e : Same H H') {l : Addr} (h : H' l = Option.none) : H l = Option.none := by
  cases q : H l with
  | none => rfl
  | some o =>
    rw [e l o q] at h
    cases h
theorem Same.seq {K : PySem.W.Frag} {H H' : Hp} {a : Addr} {xs : List V} (e : Same H H') (h : SqL K H a xs) : SqL K H' a xs := by
  rcases h with (h | ⟨o, h⟩) | h
  · exact .inl (.inl (e _ _ h))
  · exact .inl (.inr ⟨o, e _ _ h⟩)
  · exact .inr h
section
variable {κ : Type} [DecidableEq κ]
end
end L2
namespace HT
open PySem PyProof.Rows
def lexLe : List Int → List Int → Bool
  | [], [] => true
  | [], _ :: _ => true
  | _ :: _, [] => false
  | x :: xs, y :: ys => if x = y then lexLe xs ys else decide (x ≤ y)
theorem lexLe_cons (x y : Int) (xs ys : List Int) : lexLe (x :: xs) (y :: ys) = if x = y then lexLe xs ys else decide (x ≤ y) := rfl
theorem lexLe_nil_nil : lexLe [] [] = true := rfl
theorem lexLe_nil_cons (y : Int) (ys : List Int) : lexLe [] (y :: ys) = true := rfl
theorem lexLe_cons_nil (x : Int) (xs : List Int) : lexLe (x :: xs) [] = false := rfl
theorem rcLe_int (A : Around) (s : Shared) (a : Int) (t : Tok) (c : Int) (u : Tok) (prog : Program) (w : World) (E : Value → Shared → Prop) (Q : Value → Shared → Prop) (h : Q (.bool (decide (a ≤ c))) s) :
    wpAny (model prog w) A (richCompare .LtE (.int a t) (.int c u)) Q E s :=
  (PyProof.Rows.le_int h : wpAny (model prog w) A (compareOp .LtE (.int a t) (.int c u)) Q E s)
section
open PySem.SeqAt
open PySem.AutoSeq1 (wpAny_loadPart')
open PySem.MeetsSeq PySem.MeetsSeq2 PySem.MeetsSeq3
theorem tuple_le_ints (l b : Addr) (items items2 : Array Value) (n n2 : Nat) (dd dd2 : Option Addr) (sl sl2 : Array (Option Value)) (ns ms : List Int) (hi : IntsAre items.toList ns) (hj : IntsAre items2.toList ms) :
    Meets (Builtin.«tuple.__le__» ⟨[.ref l, .ref b], []⟩)
      (fun _ R s => s.heap.get? l = some { cls := .type "tuple", dict := dd, data := .seq items n, slots := sl } ∧ s.heap.get? b = some { cls := .type "tuple", dict := dd2, data := .seq items2 n2, slots := sl2 } ∧
        R (.ok (.ret (.bool (lexLe ns ms)))) s) :=
  .of_wp fun prog w A R s h => by
    obtain ⟨hp, g, d, tk, os⟩ := s; obtain ⟨hl, hb, h⟩ := h
    have f2 := AutoSeq1.sub_tuple_tuple
    have z1 : items.size = ns.length := by rw [← hi.length]; simp
    have z2 : items2.size = ms.length := by rw [← hj.length]; simp
    wp_walk using wpAny_loadPart' hl, wpAny_loadPart' hb, wpAny_forIn_list _ (fun rest b s' => b.1 = none ∧ s' = ⟨hp, g, d, tk, os⟩ ∧ ∃ (vs ws : List Value) (ns' ms' : List Int), rest = vs.zip ws ∧
      IntsAre vs ns' ∧ IntsAre ws ms' ∧ ns'.length + items2.size = ms'.length + items.size ∧ R (.ok (.ret (.bool (lexLe ns' ms')))) ⟨hp, g, d, tk, os⟩) _
    case turn =>
      rintro ⟨y, x⟩ rest b s' ⟨hb', rfl, vs, ws, ns', ms', hz, hvi, hwi, hlen, hR⟩
      cases hvi with
      | nil => rw [List.zip_nil_left] at hz; cases hz
      | cons a t hvi' =>
        cases hwi with
        | nil => rw [List.zip_nil_right] at hz; cases hz
        | cons c u hwi' =>
          rw [List.zip_cons_cons] at hz
          injection hz with hyx hrest
          injection hyx with hy hx
          subst hy hx
          rw [lexLe_cons] at hR
          simp only [List.length_cons] at hlen
          obtain ⟨e, he, hiff⟩ := eqAt_int A.in1 ⟨hp, g, d, tk, os⟩ a t c u
          refine wpAny_bind (he prog w _ _ ?_)
          cases e with
          | true =>
            rw [if_pos (hiff.mp rfl)] at hR
            wp_walk
            exact ⟨rfl, rfl, _, _, _, _, hrest, hvi', hwi', by omega, hR⟩
          | false =>
            rw [if_neg (fun q => absurd (hiff.mpr q) Bool.false_ne_true)] at hR
            have hri := rcLe_int A.in1 ⟨hp, g, d, tk, os⟩ a t c u prog w
            wp_walk using hri
            exact ⟨_, rfl, by simpa using hR⟩
    case fin =>
      rintro ⟨b1, b2⟩ s' ⟨hb', rfl, vs, ws, ns', ms', hz, hvi, hwi, hlen, hR⟩
      simp only at hb'
      subst hb'
      have hv : lexLe ns' ms' = decide (items.size ≤ items2.size) := by
        cases hvi with
        | nil =>
          cases hwi with
          | nil =>
            simp only [List.length_nil] at hlen
            rw [lexLe_nil_nil]
            exact (decide_eq_true (by omega)).symm
          | cons c u hw =>
            simp only [List.length_nil, List.length_cons] at hlen
            rw [lexLe_nil_cons]
            exact (decide_eq_true (by omega)).symm
        | cons a t hv =>
          cases hwi with
          | nil =>
            simp only [List.length_nil, List.length_cons] at hlen
            rw [lexLe_cons_nil]
            exact (decide_eq_false (by omega)).symm
          | cons c u hw =>
            rw [List.zip_cons_cons] at hz
            cases hz
      rw [hv] at hR
      wp_walk
      exact ⟨_, rfl, by simpa [Builtin.Tuple.tupleCompareSizes] using hR⟩
    case h =>
      exact ⟨rfl, rfl, items.toList, items2.toList, ns, ms, rfl, hi, hj, by omega, h⟩
end
section
variable {prog : Program} {w : World} {A : Around} {E : Value → Shared → Prop} {s : Shared}
theorem le_tupInts {l b : Addr} {items items2 : Array Value} {ns ms : List Int} {Q : Value → Shared → Prop} (hl : IsTup s.heap l items) (hb : IsTup s.heap b items2) (hi : IntsAre items.toList ns) (hj : IntsAre items2.toList ms)
    (hu : A.units < cLine) (h : Q (.bool (lexLe ns ms)) s) : wpAny (model prog w) A (compareOp .LtE (.ref l) (.ref b)) Q E s := by
  obtain ⟨⟨cls, dd, data, sl⟩, ho, hc, n, hd⟩ := id hl
  obtain ⟨⟨cls2, dd2, data2, sl2⟩, ho2, hc2, n2, hd2⟩ := id hb
  simp only at hc hd hc2 hd2
  subst hc hd hc2 hd2
  exact richCompare_meets_room (op := .LtE) ⟨_, ho, rfl⟩ ⟨_, ho2, rfl⟩ PySem.F.slot_tuple_le PySem.F.entry_tuple_le (PySem.F.args_tuple_le_2 _ _) (tuple_le_ints l b items items2 n n2 dd dd2 sl sl2 ns ms hi hj)
    ⟨ho, ho2, show Value.bool (lexLe ns ms) ≠ Value.notImplemented ∧ Q (.bool (lexLe ns ms)) s from ⟨(fun x => nomatch x), h⟩⟩ hu
end
end HT
namespace L2
open PySem PySem.Spec PyProof.Rows
section
variable {X : Cx}
def rLeT (K : PySem.W.Frag) : R2 := fun x y H Q => ∃ a b ns ms, x = .ref a ∧ y = .ref b ∧ SqT K H a (ns.map V.int) ∧ SqT K H b (ms.map V.int) ∧ Q (.bl (HT.lexLe ns ms)) H
theorem op_leT (hu : X.A.units < cLine) : OpR X (compareOp .LtE) (rLeT X.K) := by
  intro pins s σ H x y v u Q I rx ry h
  obtain ⟨a, b, ns, ms, rfl, rfl, ha, hb, q⟩ := h
  cases rx
  cases ry
  obtain ⟨its, r1, p1, _⟩ := I.tuple ha
  obtain ⟨its2, r2, p2, _⟩ := I.tuple hb
  have i1 : IntsAre its.toArray.toList ns := intsAre_of r1
  have i2 : IntsAre its2.toArray.toList ms := intsAre_of r2
  exact HT.le_tupInts p1 p2 i1 i2 hu ⟨.bl (HT.lexLe ns ms), H, I, rfl, q⟩
end
end L2
set_option Elab.async false
set_option linter.all false
set_option maxRecDepth 100000
set_option maxHeartbeats 4000000
namespace L2
open PySem
open Sem (wp)
def F2 (e : Addr) (c : Value) (h : Heap) : Prop := ∃ o vs, h.get? e = some o ∧ o.data = .fields vs ∧ vs[2]? = some c
structure KF (e : Addr) (c : Value) {α : Type} (t : Sem α) : Prop where
  out : ∀ (M : Model) (Γ : Ctx) (P : α → Pos → Shared → Prop) (Ee : Value → Pos → Shared → Prop) (p : Pos) (s : Shared), F2 e c s.heap → wp M Γ t P Ee p s → wp M Γ t (fun a p' s' => P a p' s' ∧ F2 e c s'.heap) Ee p s
theorem F2.upd {e : Addr} {c : Value} {h : Heap} (x : F2 e c h) (a : Addr) (f : Obj → Obj) (hf : ∀ o vs, o.data = .fields vs → vs[2]? = some c → ∃ vs', (f o).data = .fields vs' ∧ vs'[2]? = some c) : F2 e c (h.update a f) := by
  obtain ⟨o, vs, ho, hd, h2⟩ := x
  by_cases q : e = a
  · subst q
    obtain ⟨vs', d', h2'⟩ := hf o vs hd h2
    exact ⟨f o, vs', Heap.get?_update_self f ho (Obj.isFreed_of_fields d'), d', h2'⟩
  · exact ⟨o, vs, (Heap.get?_update_ne _ _ _ _ q).trans ho, hd, h2⟩
namespace KF
variable {e : Addr} {c : Value} {α β : Type}
theorem pure (a : α) : KF e c (Pure.pure a : Sem α) := ⟨fun _ _ _ _ _ _ hF h => ⟨h, hF⟩⟩
theorem unsupported (w : String) : KF e c (PySem.unsupported w : Sem α) := ⟨fun _ _ _ _ _ _ _ h => h⟩
theorem bind {m : Sem α} {f : α → Sem β} (hm : KF e c m) (hf : ∀ a, KF e c (f a)) : KF e c (m >>= f) := ⟨fun M Γ P Ee p s hF h => by
  rw [Sem.wp_bind'] at h ⊢
  refine Sem.wp_mono M Γ m (fun a p' s' h' => ?_) (fun _ _ _ x => x) p s (hm.out M Γ _ Ee p s hF h)
  exact (hf a).out M Γ P Ee p' s' h'.2 h'.1⟩
theorem ite {q : Prop} [Decidable q] {t u : Sem α} (ht : KF e c t) (hu : KF e c u) : KF e c (if q then t else u) := by split <;> assumption
theorem load (a : Addr) : KF e c (PySem.load a) := ⟨fun _ _ _ _ _ _ hF h => by
  obtain ⟨o, ho, h⟩ := h
  exact ⟨o, ho, h, hF⟩⟩
theorem stack : KF e c PySem.stack := ⟨fun M Γ P Ee p s hF h => by
  unfold PySem.stack at h ⊢
  rw [Sem.wp_stack] at h ⊢
  exact ⟨h, hF⟩⟩
theorem field (v : Value) (i : Nat) : KF e c (PySem.field v i) := ⟨fun _ Γ P Ee p s hF h => by
  rw [wp_field_iff] at h ⊢
  obtain ⟨a, o, vs, x, e1, e2, e3, e4, h⟩ := h
  exact ⟨a, o, vs, x, e1, e2, e3, e4, h, hF⟩⟩
theorem setField (v : Value) (i : Nat) (x : Value) (hi : i ≠ 2) : KF e c (PySem.setField v i x) := ⟨fun _ Γ P Ee p s hF h => by
  rw [wp_setField_iff] at h ⊢
  obtain ⟨a, o, vs, e1, e2, e3, e4, h⟩ := h
  refine ⟨a, o, vs, e1, e2, e3, e4, h, hF.upd a _ fun o vs hd h2 => ⟨_, Obj.data_mapFields hd _, ?_⟩⟩
  rw [Array.getElem?_setIfInBounds_ne hi]
  exact h2⟩
theorem update (a : Addr) (f : Obj → Obj) (hf : ∀ o, (f o).data = o.data) : KF e c (PySem.update a f) := ⟨fun _ _ _ _ _ _ hF h => by
  obtain ⟨h1, h2⟩ := h
  exact ⟨h1, h2, hF.upd a f fun o vs hd h2 => ⟨vs, (hf o).trans hd, h2⟩⟩⟩
theorem alloc (o : Obj) : KF e c (PySem.alloc o) := ⟨fun _ _ _ _ _ _ hF h => by
  obtain ⟨o2, vs, ho, hd, h2⟩ := hF
  exact ⟨h, o2, vs, Heap.get?_push_of_some _ ho, hd, h2⟩⟩
end KF
section
variable {e : Addr} {c : Value}
theorem kf_behind (env : Env) (outer : List Env) : KF e c (behindIsImport env outer) := by
  unfold behindIsImport
  (repeat' with_reducible first | assumption | exact KF.pure _ | exact KF.unsupported _ | exact KF.field _ _ | exact KF.setField _ _ _ (by decide) | exact KF.load _ | exact KF.update _ _ (fun _ => rfl) | exact KF.stack | exact KF.alloc _ | apply KF.ite | apply KF.bind | intro _ | split)
theorem kf_under : KF e c underTheClaimsCaller := by
  unfold underTheClaimsCaller
  (repeat' with_reducible first | assumption | exact KF.pure _ | exact KF.unsupported _ | exact KF.field _ _ | exact KF.setField _ _ _ (by decide) | exact KF.load _ | exact KF.update _ _ (fun _ => rfl) | exact KF.stack | exact KF.alloc _ | apply KF.ite | apply KF.bind | intro _ | split)
theorem kf_keptBack (env : Env) (i : Bool) (l : List Env) : KF e c (keptBack env i l) := by
  have := kf_under (e := e) (c := c)
  cases l <;> unfold keptBack <;> (repeat' with_reducible first | assumption | exact KF.pure _ | exact KF.unsupported _ | exact KF.field _ _ | exact KF.setField _ _ _ (by decide) | exact KF.load _ | exact KF.update _ _ (fun _ => rfl) | exact KF.stack | exact KF.alloc _ | apply KF.ite | apply KF.bind | intro _ | split)
theorem kf_ready : ∀ l : List Env, KF e c (readyFrames l)
  | [] => KF.pure _
  | env :: outer => by
    have ih := kf_ready outer
    have h1 := kf_behind (e := e) (c := c) env outer
    have h2 := fun i => kf_keptBack (e := e) (c := c) env i outer
    unfold readyFrames
    (repeat' with_reducible first | assumption | exact KF.pure _ | exact KF.unsupported _ | exact KF.field _ _ | exact KF.setField _ _ _ (by decide) | exact KF.load _ | exact KF.update _ _ (fun _ => rfl) | exact KF.stack | exact KF.alloc _ | apply KF.ite | apply KF.bind | intro _ | split)
    all_goals first | exact h2 _ | skip
theorem kf_frameObject (l : List Env) : KF e c (frameObject l) := by
  cases l with
  | nil => exact KF.pure _
  | cons env outer =>
    have := kf_ready (e := e) (c := c) (env :: outer)
    unfold frameObject
    (repeat' with_reducible first | assumption | exact KF.pure _ | exact KF.unsupported _ | exact KF.field _ _ | exact KF.setField _ _ _ (by decide) | exact KF.load _ | exact KF.update _ _ (fun _ => rfl) | exact KF.stack | exact KF.alloc _ | apply KF.ite | apply KF.bind | intro _ | split)
theorem kf_frameEnvs : KF e c frameEnvs := by
  unfold frameEnvs
  (repeat' with_reducible first | assumption | exact KF.pure _ | exact KF.unsupported _ | exact KF.field _ _ | exact KF.setField _ _ _ (by decide) | exact KF.load _ | exact KF.update _ _ (fun _ => rfl) | exact KF.stack | exact KF.alloc _ | apply KF.ite | apply KF.bind | intro _ | split)
theorem kf_frameOf (env : Env) : KF e c (frameOf env) := by
  have h1 := kf_frameEnvs (e := e) (c := c)
  have h2 := fun l => kf_frameObject (e := e) (c := c) l
  unfold frameOf
  (repeat' with_reducible first | assumption | exact KF.pure _ | exact KF.unsupported _ | exact KF.field _ _ | exact KF.setField _ _ _ (by decide) | exact KF.load _ | exact KF.update _ _ (fun _ => rfl) | exact KF.stack | exact KF.alloc _ | apply KF.ite | apply KF.bind | intro _ | split)
  all_goals first | exact h2 _ | skip
theorem kf_place (f : Addr) (b : Bool) : KF e c (entryPlaceOf f b) := by
  unfold entryPlaceOf
  (repeat' with_reducible first | assumption | exact KF.pure _ | exact KF.unsupported _ | exact KF.field _ _ | exact KF.setField _ _ _ (by decide) | exact KF.load _ | exact KF.update _ _ (fun _ => rfl) | exact KF.stack | exact KF.alloc _ | apply KF.ite | apply KF.bind | intro _ | split)
theorem kf_newFields (n : String) (vs : List Value) : KF e c (newFields n vs) := by
  unfold newFields newObj newObjAsIs
  (repeat' with_reducible first | assumption | exact KF.pure _ | exact KF.unsupported _ | exact KF.field _ _ | exact KF.setField _ _ _ (by decide) | exact KF.load _ | exact KF.update _ _ (fun _ => rfl) | exact KF.stack | exact KF.alloc _ | apply KF.ite | apply KF.bind | intro _ | split)
theorem kf_newEntry (a b d f g : Value) (l : List Value) : KF e c (EntryCells.newEntry a b d f g l) := by
  unfold EntryCells.newEntry
  exact kf_newFields _ _
theorem kf_noteFrame (v : Value) (env : Env) : KF e c (noteFrame v env) := by
  have h1 := kf_frameOf (e := e) (c := c) env
  have h2 := fun f b => kf_place (e := e) (c := c) f b
  have h3 := fun x1 x2 x3 x4 x5 l => kf_newEntry (e := e) (c := c) x1 x2 x3 x4 x5 l
  unfold noteFrame
  (repeat' with_reducible first | assumption | exact KF.pure _ | exact KF.unsupported _ | exact KF.field _ _ | exact KF.setField _ _ _ (by decide) | exact KF.load _ | exact KF.update _ _ (fun _ => rfl) | exact KF.stack | exact KF.alloc _ | apply KF.ite | apply KF.bind | intro _ | split)
  all_goals first | exact h2 _ _ | exact h3 _ _ _ _ _ _ | skip
theorem kf_setFlight (v : Value) (f : Option Addr) : KF e c (setFlight v f) := by
  unfold setFlight
  (repeat' with_reducible first | assumption | exact KF.pure _ | exact KF.unsupported _ | exact KF.field _ _ | exact KF.setField _ _ _ (by decide) | exact KF.load _ | exact KF.update _ _ (fun _ => rfl) | exact KF.stack | exact KF.alloc _ | apply KF.ite | apply KF.bind | intro _ | split)
theorem kf_leaving (v : Value) (env : Env) : KF e c (leaving env v) := by
  unfold leaving
  exact KF.bind (kf_noteFrame v env) fun _ => kf_setFlight v none
theorem KF.any {α : Type} {t : Sem α} (k : KF e c t) {M : Model} {A : Around} {Q : α → Shared → Prop} {E : Value → Shared → Prop} {s : Shared} (hF : F2 e c s.heap) (h : wpAny M A t Q E s) : wpAny M A t (fun a s' => Q a s' ∧ F2 e c s'.heap) E s := by
  intro Γ p hΓ
  exact k.out M Γ _ _ _ s hF (h Γ p hΓ)
end
end L2
set_option Elab.async false
set_option linter.all false
set_option maxRecDepth 100000
set_option maxHeartbeats 4000000
namespace My
open PySem PySem.W PyProof.Rows
def goT (tb : String → Option Builtin) (p : Program) (w : World) (n₀ : Nat) (ann : Option Value) : Nat → SharedT → Thread → Option SharedT
  | 0, _, _ => none
  | n + 1, s, t => match through t with
    | true => some s
    | false => match stepOk n₀ ann t with
      | false => none
      | true => match stepT (denote tb) p w s t with
        | some (s', t') => goT tb p w n₀ ann n s' t'
        | none => none
def growT : List Obj → Nat → BT → BT
  | [], _, t => t
  | o :: r, n, t => growT r (n + 1) (t.ins n o)
theorem goT_of {tb : String → Option Builtin} {p : Program} {w : World} {n₀ : Nat} {ann : Option Value} : ∀ {n : Nat} {s r : SharedT} {t : Thread}, goT tb p w n₀ ann n s t = some r → topRun tb p w n₀ ann n s.abs t = some r.abs
  | 0, _, _, _, h => by cases h
  | n + 1, s, r, t, h => by
    unfold goT at h
    unfold topRun
    cases ht : through t with
    | true => rw [ht] at h; cases h; rfl
    | false =>
      rw [ht] at h
      cases hk : stepOk n₀ ann t with
      | false => rw [hk] at h; cases h
      | true =>
        rw [hk] at h
        cases hs : stepT (denote tb) p w s t with
        | none => rw [hs] at h; cases h
        | some r => obtain ⟨s₂, t₂⟩ := r; rw [hs] at h; rw [stepT_spec hs]; exact goT_of h
noncomputable def bootT (P : Params) : BT := growT (boot_heap P).objs.toList 0 .nil
theorem boot_tree (P : Params) : absHeap (bootT P) (boot_heap P).objs.size (boot_heap P).life = boot_heap P := by kernel_rfl
theorem boot_ns (P : Params) : ((boot_heap P).isNs mainGlobals && (Array.mk ([] : List GenState)).size == 0) = true := by kernel_rfl
noncomputable def lookT (p q : Program) (loose : List Str) (recs : WRecords) (as : List Addr) (N : Nat) (w : World) (os : OsState) :=
  (goT treeTable p w (boot_heap w.params).objs.size ((boot_heap w.params).nsMap mainGlobals "__annotations__") N ⟨bootT w.params, (boot_heap w.params).objs.size, (boot_heap w.params).life, Array.mk [], boot_drawn, boot_toks, os⟩ (topStub p)).map fun s =>
    ((staticsOk (importedModules p.main.body) (boot_heap w.params) s.abs.heap && namesBound p s.abs.heap && gensDone s.abs && laidKept (boot_heap w.params) s.abs.heap),
      openSeen q loose (importedModules p.main.body) (fun s => xlAt q [] s && recOk recs s) true s.abs, as.map s.abs.heap.get?)
theorem prime0 : ((fun (_ : Program → Program → List Str → WRecords → List Addr → Nat → World → OsState → Bool) => true) fun p q l r a n w o => (lookT p q l r a n w o).isSome) = true := by k_qdec
theorem left_of {p q : Program} {loose : List Str} {recs : WRecords} {as : List Addr} {K : Params → Frag} {e : ∀ P, as = (K P).map (·.1)} {N : Nat} (e1 : opening p = plainProg p.main.scope.names) (hN : Nat.ble 600 N = true) (hf : ∀ s, fenceModules? p s = some s)
    (h : ∀ w os, lookT p q loose recs as N w os = some (true, openGood q loose, (K w.params).map fun p => some p.2)) : LeftO p q loose (fun s => xlAt q [] s && recOk recs s) (kHook K as e).obs (kHook K as e).val N := fun w => by
  obtain ⟨⟨h0, gs, d, k, os⟩, e2, e3⟩ := Option.map_eq_some_iff.mp (boot_open e1 hN hf w)
  obtain ⟨rfl, rfl, rfl, rfl⟩ : h0 = boot_heap w.params ∧ gs = Array.mk [] ∧ d = boot_drawn ∧ k = boot_toks := by simpa using e3
  obtain ⟨s, r, l⟩ := Option.map_eq_some_iff.mp (h w os)
  obtain ⟨l1, l2, l3⟩ : _ ∧ _ ∧ _ := by simpa only [Prod.mk.injEq] using l
  have r' := goT_of r
  have es : (SharedT.mk (bootT w.params) (boot_heap w.params).objs.size (boot_heap w.params).life (Array.mk []) boot_drawn boot_toks os).abs = ⟨boot_heap w.params, Array.mk [], boot_drawn, boot_toks, os⟩ := by
    unfold SharedT.abs
    dsimp only
    rw [boot_tree]
  rw [es] at r'
  have t : topFrom treeTable p w N ⟨boot_heap w.params, Array.mk [], boot_drawn, boot_toks, os⟩ = some s.abs := by
    unfold topFrom
    dsimp only
    rw [boot_ns, r']
    show (match staticsOk (importedModules p.main.body) (boot_heap w.params) s.abs.heap && namesBound p s.abs.heap && gensDone s.abs && laidKept (boot_heap w.params) s.abs.heap with | true => _ | false => _) = _
    rw [l1]
  unfold openEnds
  rw [e2]
  show (topFrom treeTable p w N _).map _ = _
  rw [t]
  exact congrArg some (Prod.ext l2 l3)
end My
set_option Elab.async false
set_option linter.all false
set_option maxRecDepth 100000
set_option maxHeartbeats 4000000
namespace L2
open PySem PySem.Spec PyProof.Rows
theorem ObjOk.there {P : Program} {w : World} {H : Hp} {h : Heap} {a : Addr} {o : HO} (x : ObjOk P w H h a o) : ∃ ob, h.get? a = some ob := by
  cases o with
  | lst xs => obtain ⟨_, _, _, _, e⟩ := x; exact ⟨_, e⟩
  | tup xs => obtain ⟨_, _, _, ob, e, _⟩ := x; exact ⟨ob, e⟩
  | dK kvs => obtain ⟨_, _, _, _, ob, _, _, e, _⟩ := x; exact ⟨ob, e⟩
  | dT kvs => obtain ⟨_, _, _, _, ob, _, _, e, _⟩ := x; exact ⟨ob, e⟩
  | set S n => obtain ⟨ob, _, _, _, e, _⟩ := x; exact ⟨ob, e⟩
  | ins C dx fs => obtain ⟨_, _, _, e, _⟩ := x; exact ⟨_, e⟩
  | own y => obtain ⟨ob, e⟩ := x; exact ⟨ob, e⟩
  | xd fs => obtain ⟨_, ⟨ob, _, _, e, _⟩, _⟩ := x; exact ⟨ob, e⟩
  | rng lo hi => obtain ⟨_, _, _, e⟩ := x; exact ⟨_, e⟩
  | frz ob u => obtain ⟨e, _⟩ := x; exact ⟨_, e⟩
  | tbl ps => exact ⟨_, (show h.get? a = some _ from x)⟩
  | met f y => exact ⟨_, (show h.get? a = some _ from x)⟩
  | ext φ => obtain ⟨_, e, _⟩ := x; exact e
structure FlyF (fl : Value) (H : Hp) (h0 : Heap) (a C : Addr) (h : Heap) : Prop where
  ex : ∃ (oe : Obj) (vs : Array Value) (T : Addr) (oT : Obj) (ts : Array Value) (a0 : Value), h.get? a = some oe ∧ oe.cls = Value.ref C ∧ oe.data = .fields vs ∧ vs[0]? = some a0 ∧
    vs[1]? = some (.ref T) ∧ T ≠ a ∧ h.get? T = some oT ∧ oT.data = .fields ts ∧ ts[3]? = some fl ∧ h0.get? T = none ∧ H T = none
  new : h0.get? a = none
  nt : H a = none
abbrev FlyAt := FlyF .none
def CXF (P : Program) (w : World) : CXT := fun outer H s E e s' =>
  ∃ (a C : Addr) (m : Option Addr) (H' : Hp), e = .ref a ∧ s'.os = s.os ∧ AllBare s'.gens ∧ Un (frs outer) [] H H' s.heap s'.heap ∧ HOk P w H' s'.heap ∧ FlyAt H' s.heap a C s'.heap ∧ (m = none → F2 a .none s'.heap) ∧ E (.ref C) m H'
structure Own (X : Cx) : Prop where
  st : X.stack = X.env :: X.outer
  fr : X.env.frame = some X.env.locals
  ex : X.ex = []
section
variable {X : Cx} {pins : List (Addr × Obj)} {σ : St} {H : Hp} {s : Shared} {e C : Addr}
theorem Own.frs (o : Own X) : frs X.stack = X.env.locals :: X.fs := by
  rw [o.st]; unfold L2.frs; rw [List.filterMap_cons, o.fr]; rfl
theorem Inv.old_ne (I : Inv X pins σ H s) {b : Addr} {ob : Obj} (q : X.s₀.heap.get? b = some ob) : b ≠ X.env.locals :=
  Nat.ne_of_lt (Nat.lt_of_lt_of_le (Heap.lt_size q) I.ok.above)
theorem left_ok (I : Inv X pins σ H s) (o : Own X) {h0 : Heap} {ext : List Addr} {a0 fl : Value} {h2 : Heap} (hs0 : ∀ b ob, X.s₀.heap.get? b = some ob → ∃ o2, h0.get? b = some o2)
    (h0s : ∀ b ob, h0.get? b = some ob → ∃ o2, s.heap.get? b = some o2) (hx : ∀ b ∈ ext, h0.get? b = none ∧ H b = none) (he : e ∈ ext)
    (L : Heap.NotedW (PySem.W.hideAll s.heap (frs X.stack ++ ext)) (X.env :: X.outer) e (.ref C) a0 fl s.heap h2) :
    Un X.fs [] X.H₀ H X.s₀.heap h2 ∧ HOk X.prog X.w H h2 ∧ FlyF fl H h0 e C h2 := by
  obtain ⟨k1, k2, ⟨oe, vs, T, oT, ts, t1, ⟨t2, t3⟩, t4, t5, t6, t7, t8, t9, t10⟩, k4⟩ := L
  have nox : ∀ b : Addr, b ∉ X.ex := fun b z => by rw [o.ex] at z; exact absurd z (by simp)
  have nx0 : ∀ b ob, X.s₀.heap.get? b = some ob → b ∉ ext := fun b ob q z => by
    obtain ⟨o2, e2⟩ := hs0 b ob q
    rw [(hx b z).1] at e2; cases e2
  have keepB : ∀ b ob, s.heap.get? b = some ob → b ∉ L2.frs X.stack → b ∉ ext → h2.get? b = some ob := fun b ob q n1 n2 =>
    k1 b ob (PySem.W.hideAll_get _ q fun z => (List.mem_append.mp z).elim n1 n2)
  have nf : ∀ b ob, X.s₀.heap.get? b = some ob → b ∉ X.fs → b ∉ L2.frs X.stack := fun b ob q n z => by
    rw [o.frs] at z
    rcases List.mem_cons.mp z with z | z
    · exact I.old_ne q z
    · exact n z
  have slotB : ∀ b ob, X.s₀.heap.get? b = some ob → b ∈ X.fs → ∃ sl, h2.get? b = some { ob with slots := sl } := fun b ob q hb => by
    obtain ⟨sl, e1⟩ := I.base.slot b ob q (I.ok.frf b hb) hb (nox b)
    obtain ⟨_, o2, ho2, hd2⟩ := I.ok.funs.mem hb
    rw [q] at ho2; cases ho2
    obtain ⟨sl2, e2⟩ := k4 b _ e1 hd2
    exact ⟨sl2, e2⟩
  have hok : HOk X.prog X.w H h2 := fun b ob q => by
    refine (I.hok b ob q).stay (fun c u hc r => ?_) (fun _ z => z) fun _ _ z => z
    have hc' : ∃ v, H c = some v := by
      rcases hc with rfl | hc
      · exact ⟨_, q⟩
      · exact ⟨_, hc⟩
    obtain ⟨v, hv⟩ := hc'
    refine keepB c u r (fun z => ?_) fun z => ?_
    · rw [I.stkFree c z] at hv; cases hv
    · rw [(hx c z).2] at hv; cases hv
  have hT : ∀ ob, s.heap.get? T = some ob → T ∈ ext := fun ob q => by
    by_cases z1 : T ∈ L2.frs X.stack
    · rw [o.st] at z1
      obtain ⟨_, o2, ho2, hd2⟩ := k2.mem z1
      rw [t8] at ho2; cases ho2
      exact absurd t9 (hd2 ts)
    · by_cases z2 : T ∈ ext
      · exact z2
      · rw [PySem.W.hideAll_get _ q fun z => (List.mem_append.mp z).elim z1 z2] at t6
        cases t6
  refine ⟨⟨fun b ob q n hb _ => ?_, fun b ob q n hb _ => slotB b ob q hb, fun b ob q n _ => I.base.free b ob q n (nox b), fun b ob q _ => ?_, I.base.tups, I.base.frzs, I.base.tbls⟩, hok, ⟨⟨oe, vs, T, oT, ts, a0, t1, t2, t4, t3, t5, t7, t8, t9, t10, ?_, ?_⟩, (hx e he).1, (hx e he).2⟩⟩
  · exact keepB b ob (I.base.keep b ob q n hb (nox b)) (nf b ob q hb) (nx0 b ob q)
  · by_cases hb : b ∈ X.fs
    · obtain ⟨sl, e2⟩ := slotB b ob q hb
      exact ⟨_, e2⟩
    · obtain ⟨o2, e2⟩ := I.base.there b ob q (nox b)
      exact ⟨o2, keepB b o2 e2 (nf b ob q hb) (nx0 b ob q)⟩
  · cases q : h0.get? T with
    | none => rfl
    | some ob =>
      obtain ⟨o2, e2⟩ := h0s T ob q
      rw [(hx T (hT o2 e2)).1] at q; cases q
  · cases q : H T with
    | none => rfl
    | some u =>
      obtain ⟨ob, e2⟩ := (I.hok T u q).there
      rw [(hx T (hT ob e2)).2] at q; cases q
theorem Own.up (o : Own X) (I : Inv X pins σ H s) : ∀ b ob, X.s₀.heap.get? b = some ob → ∃ o2, s.heap.get? b = some o2 := fun b ob q =>
  I.base.there b ob q fun z => by rw [o.ex] at z; exact absurd z (by simp)
theorem hid_frames (I : Inv X pins σ H s) (o : Own X) (ext : List Addr) : s.heap.FunFrames (PySem.W.hideAll s.heap (frs X.stack ++ ext)) (X.env :: X.outer) := by
  have z := I.stack
  have e := o.st
  rw [e] at z
  refine PySem.W.funFrames_hide z fun env he b hb => List.mem_append_left _ ?_
  rw [e]
  exact List.mem_filterMap.mpr ⟨env, he, hb⟩
theorem leave_new (I : Inv X pins σ H s) (o : Own X) {h1 : Heap} {vs : List Value} {M : Model} {E : Value → Shared → Prop} {Q : Unit → Shared → Prop} (hx : Heap.MadeExcOf s.heap h1 e (.ref C) vs)
    (hQ : ∀ h2, Un X.fs [] X.H₀ H X.s₀.heap h2 → HOk X.prog X.w H h2 → FlyAt H X.s₀.heap e C h2 → Q () { s with heap := h2 }) :
    wpAny M X.A (leaving X.env (.ref e)) Q E { s with heap := h1 } := by
  have I1 : Inv X pins σ H { s with heap := h1 } := I.kept (t' := s.toks) hx.keeps
  obtain ⟨t, he, _, _⟩ := hx.there
  have nox : ∀ b : Addr, b ∉ X.ex := fun b z => by rw [o.ex] at z; exact absurd z (by simp)
  have n0 : X.s₀.heap.get? e = none := by
    cases q : X.s₀.heap.get? e with
    | none => rfl
    | some ob =>
      obtain ⟨o2, e2⟩ := I.base.there e ob q (nox e)
      rw [hx.new] at e2; cases e2
  have nH : H e = none := by
    cases q : H e with
    | none => rfl
    | some u =>
      obtain ⟨ob, e2⟩ := (I.hok e u q).there
      rw [hx.new] at e2; cases e2
  have hext : ∀ b ∈ [e], X.s₀.heap.get? b = none ∧ H b = none := fun b hb => by
    have z : b = e := by simpa using hb
    subst z
    exact ⟨n0, nH⟩
  refine wpAny_leaving_firstW (base := PySem.W.hideAll h1 (frs X.stack ++ [e])) (a0 := .ref t) (outer := X.outer) (by rw [I.ok.frames, o.st]) (hid_frames I1 o [e]) o.fr he (fun b ob q => PySem.W.of_hideAll _ q)
    (PySem.W.hideAll_none _ (by simp)) rfl rfl rfl fun h2 hL => ?_
  obtain ⟨a1, a2, a3⟩ := left_ok I1 o (fun b ob q => ⟨ob, q⟩) (o.up I1) hext (by simp) hL
  exact hQ h2 a1 a2 a3
theorem leave_on (I : Inv X pins σ H s) (o : Own X) {h0 : Heap} {M : Model} {E : Value → Shared → Prop} {Q : Unit → Shared → Prop} (F : FlyAt H h0 e C s.heap) (hh : ∀ b ob, X.s₀.heap.get? b = some ob → ∃ o2, h0.get? b = some o2)
    (hQ : ∀ h2, Un X.fs [] X.H₀ H X.s₀.heap h2 → HOk X.prog X.w H h2 → FlyAt H X.s₀.heap e C h2 → Q () { s with heap := h2 }) :
    wpAny M X.A (leaving X.env (.ref e)) Q E s := by
  obtain ⟨oe, vs, T, oT, ts, a0, t1, t2, t4, t3, t5, t7, t8, t9, t10, t11, t12⟩ := F.ex
  have up : ∀ {b : Addr}, h0.get? b = none → X.s₀.heap.get? b = none := fun {b} z => by
    cases q : X.s₀.heap.get? b with
    | none => rfl
    | some ob =>
      obtain ⟨o2, e2⟩ := hh b ob q
      rw [z] at e2; cases e2
  have hext : ∀ b ∈ [e, T], X.s₀.heap.get? b = none ∧ H b = none := fun b hb => by
    rcases List.mem_cons.mp hb with rfl | hb
    · exact ⟨up F.new, F.nt⟩
    · have z : b = T := by simpa using hb
      subst z
      exact ⟨up t11, t12⟩
  refine wpAny_leaving_nextW (base := PySem.W.hideAll s.heap (frs X.stack ++ [e, T])) (cls := .ref C) (a0 := a0) (outer := X.outer) (by rw [I.ok.frames, o.st]) (hid_frames I o [e, T]) o.fr
    ⟨oe, vs, T, oT, ts, t1, ⟨t2, t3⟩, t4, t5, PySem.W.hideAll_none _ (by simp), t7, t8, t9, t10⟩ (fun b ob q => PySem.W.of_hideAll _ q) (PySem.W.hideAll_none _ (by simp)) fun h2 hL => ?_
  obtain ⟨a1, a2, a3⟩ := left_ok I o (fun b ob q => ⟨ob, q⟩) (o.up I) hext (by simp) hL
  exact hQ h2 a1 a2 a3
end
def Raises (X : Cx) (E : XK) : Prop := ∀ (pins : List (Addr × Obj)) (σ : St) (H : Hp) (s : Shared) (h1 : Heap) (e C : Addr) (vs : List Value), Inv X pins σ H s → Heap.MadeExcOf s.heap h1 e (.ref C) vs → E (.ref C) none H → X.xe (.ref e) { s with heap := h1 }
section
variable {P : Program} {w : World} {K : PySem.W.Frag} {mg : Str → Option Value} {base : Heap} {N : List Str} {qual : Str} {scope : Scope} {f : Addr} {cd : Value} {A : Around} {outer : List Env} {s : Shared} {H : Hp} {E : XK}
abbrev cxF (P : Program) (w : World) (K : PySem.W.Frag) (mg : Str → Option Value) (base : Heap) (N : List Str) (qual : Str) (scope : Scope) (f : Addr) (cd : Value) (A : Around) (outer : List Env) (s : Shared) (H : Hp) (E : XK) : Cx :=
  cxOf (CXF P w) P w K mg base N qual scope f cd A outer s H E
theorem own_cx : Own (cxF P w K mg base N qual scope f cd A outer s H E) := ⟨rfl, rfl, rfl⟩
theorem raises_cx : Raises (cxF P w K mg base N qual scope f cd A outer s H E) E := by
  intro pins σ H1 s1 h1 e C vs I hx hE
  obtain ⟨t, he, _, _⟩ := hx.there
  have hF : F2 e .none ({ s1 with heap := h1 } : Shared).heap := ⟨_, _, he, rfl, rfl⟩
  exact thn ((kf_leaving (.ref e) _).any hF (leave_new I own_cx hx (Q := fun _ s2 => ∃ h2, s2 = { s1 with heap := h2 } ∧ Un _ [] _ H1 _ h2 ∧ HOk _ _ H1 h2 ∧ FlyAt H1 _ e C h2) fun h2 u ok fl => ⟨h2, rfl, u, ok, fl⟩)) fun _ s2 ⟨⟨h2, e2, u, ok, fl⟩, f2⟩ => by
    subst e2
    exact ⟨e, C, none, H1, rfl, I.os, I.bare, u, ok, fl, fun _ => f2, hE⟩
theorem passes_cx : Passes (CXF P w) (cxF P w K mg base N qual scope f cd A outer s H E) E := by
  intro pins σ H1 s1 ev s2 I hx
  obtain ⟨a, C, m, H2, rfl, os, bare, un, ok, fl, hm, hE⟩ := hx
  have I2 : Inv (cxF P w K mg base N qual scope f cd A outer s H E) pins σ H2 s2 := I.call' os un ok bare (fun b z => absurd z (by simp))
  have go := leave_on I2 own_cx (M := model P w) (E := fun e s'' => CXF P w outer H s E e s'') fl (fun b ob q => I.base.there b ob q (by show b ∉ ([] : List Addr); simp)) (Q := fun _ s3 => ∃ h2, s3 = { s2 with heap := h2 } ∧ Un _ [] _ H2 _ h2 ∧ HOk _ _ H2 h2 ∧ FlyAt H2 _ a C h2) fun h2 u ok2 fl2 => ⟨h2, rfl, u, ok2, fl2⟩
  cases m with
  | none =>
    refine thn ((kf_leaving (.ref a) _).any (hm rfl) go) fun _ s3 ⟨⟨h2, e2, u, ok2, fl2⟩, f2⟩ => ?_
    subst e2
    exact ⟨a, C, none, H2, rfl, I2.os, I2.bare, u, ok2, fl2, fun _ => f2, hE⟩
  | some b =>
    refine thn go fun _ s3 ⟨h2, e2, u, ok2, fl2⟩ => ?_
    subst e2
    exact ⟨a, C, some b, H2, rfl, I2.os, I2.bare, u, ok2, fl2, (fun z => nomatch z), hE⟩
theorem passesOwn_cx : PassesOwn (model P w) (cxF P w K mg base N qual scope f cd A outer s H E).A (cxF P w K mg base N qual scope f cd A outer s H E).env (cxF P w K mg base N qual scope f cd A outer s H E).xe :=
  PassesOwn.leaving (Q₁ := fun e s'' => CXF P w outer H s E e s'') (E₁ := fun e s'' => CXF P w outer H s E e s'')
end
theorem pass0F {X : Cx} : Passes (CXF X.prog X.w) X E0 := fun _ _ _ _ _ _ _ ⟨_, _, _, _, _, _, _, _, _, _, _, z⟩ => False.elim z
theorem excIn_obj {K : PySem.W.Frag} {h : Heap} {C : Addr} {bmB : List Value} {newId : String} (X : K.In h) (q : PySem.W.excIn K C bmB newId = true) :
    ∃ bm N nm qn bs hdct sn sub ab col dd k0 k1 k2 k3 k5 mN, K.lookup C = some (excClassObj nm qn C N bs bm hdct sn sub ab col dd k0 k1 k2 k3 k5 newId) ∧ h.Ns N mN ∧ mN "__init__" = none ∧ OwnTail h bmB bm := by
  unfold PySem.W.excIn at q
  split at q
  · rename_i dd cd sl ho
    split at q
    · rename_i C2 bm k0 k1 k2 k3 n k5 hm hs
      rw [Bool.and_eq_true, Bool.and_eq_true, Bool.and_eq_true, Bool.and_eq_true, Bool.and_eq_true] at q
      obtain ⟨⟨⟨⟨⟨q1, q2⟩, q3⟩, q4⟩, q5⟩, q6⟩ := q
      have e1 := beq_iff_eq.mp q1
      have e2 := beq_iff_eq.mp q2
      have e3 : cd.hasDel = false := by simpa using q3
      have e6 := beq_iff_eq.mp q6
      subst e1 e2
      obtain ⟨nm, bs, mro, ns, qn, hd, sn, sub, ab, col, del⟩ := cd
      have hm2 : mro = .ref C2 :: bm := hm
      have e32 : del = false := e3
      subst hm2 e32
      have hsl : sl = #[k0, k1, k2, k3, some (.builtin n), k5] := by
        cases sl with
        | mk l => exact congrArg Array.mk hs
      subst hsl
      exact ⟨bm, ns, nm, qn, bs, hd, sn, sub, ab, col, dd, k0, k1, k2, k3, k5, _, ho, .of_isNs (PySem.W.isNs_of_in X q5), PySem.W.nsMap_none_of_in X q5 e6, PySem.W.tail_of_in X q4⟩
    · cases q
  · cases q
section
variable {X : Cx}
def tRaise (C : Addr) (E : XK) (t : TA) : TS := fun _ σ H => t σ H fun vs H1 => vs.length ≤ sizeLine ∧ E (.ref C) none H1
theorem ps_raise {x : Str} {C : Addr} {E : XK} {B newId initId : String} {bm : List Value} {e0 : Expr} {rest : List Expr} {t : TA} {np cpos pos : Pos} (hr : Raises X E) (hg : Gl X x) (hm : X.mg x = some (.ref C))
    (hq : PySem.W.excIn X.K C bm newId = true) (FB : ExcBaseFacts B newId initId bm) (hc : X.calm = true) (ha : PA X (e0 :: rest) t)
    (he : starEach (e0 :: rest) X.env = (false, eval e0 X.env) :: starEach rest X.env := by rfl) (hpl : (backTo cpos (starEach rest X.env)).any (·.1) = false := by rfl) (hd : (x == ("__debug__" : Str)) = false := by decide) :
    PS X (.Raise (some (.Call (.Name x np) (e0 :: rest) [] cpos)) none pos) (tRaise C E t) := by
  intro pins s σ H D I h
  obtain ⟨tl, N, nm, qn, bs, hdct, sn, sub, ab, col, dd, k0, k1, k2, k3, k5, mN, hCK, hN, hni, T⟩ := excIn_obj I.mod.kin hq
  have hC := I.mod.kin _ _ hCK
  refine wpAny_Raise_call_subT (C := C) (nm := nm) (q := qn) (N := N) (bs := bs) (bm := tl) (hdct := hdct) (sn := sn) (sub := sub) (ab := ab) (col := col) (dd := dd) (k0 := k0) (k1 := k1) (k2 := k2) (k3 := k3) (k5 := k5) (mN := mN)
    FB (T.hasType FB.hasBase) (I.ok.hd hc) ?_ hni (ld_glob I hg hm ⟨rfl, ?_⟩ hd)
  · rw [he]
    show (false || (backTo cpos (starEach rest X.env)).any (·.1)) = false
    rw [hpl]
    rfl
  · have ha2 := ha cpos pins s σ H _ I h
    rw [he] at ha2 ⊢
    refine Calls.evalArgs_plain (thn ha2 fun us s1 ⟨vs, H1, I1, r1, z, q1⟩ => ⟨rfl, by rw [← r1.length]; exact z, I1.bk _ _ hC, hN.keeps I1.bk, T.keeps I1.bk, fun h1 e hx => ?_⟩)
    exact hr pins σ H1 s1 h1 e C us I1 hx q1
end
end L2
set_option Elab.async false
set_option linter.all false
set_option maxRecDepth 100000
set_option maxHeartbeats 4000000
namespace L2
open PySem PySem.Spec PyProof.Rows
def excO (a C : Addr) : HO := .ext fun h => ∃ (oe : Obj) (vs : Array Value), h.get? a = some oe ∧ oe.cls = Value.ref C ∧ oe.data = .fields vs
section
variable {X : Cx} {pins : List (Addr × Obj)} {σ : St} {H : Hp} {s : Shared}
theorem Inv.track {a : Addr} {o : HO} (I : Inv X pins σ H s) (hn : H a = none) (h0 : X.s₀.heap.get? a = none) (hL : a ≠ X.env.locals) (hc : ∀ x c, X.env.cells.lookup x = some c → c ≠ a)
    (hp : ∀ p ∈ X.pn ++ pins, p.1 ≠ a) (ho : ObjOk X.prog X.w (upd H a o) s.heap a o) : Inv X pins σ (upd H a o) s := by
  have ne : ∀ b u, H b = some u → b ≠ a := fun b u q z => by rw [z, hn] at q; cases q
  refine ⟨I.ok, I.os, I.bare, ⟨I.base.keep, I.base.slot, fun b ob q n hx => ?_, I.base.there, fun b xs q => ?_, fun b ob u q => ?_, fun b ps q => ?_⟩, I.loc, I.cell, ?_, fun x c q => ?_, fun p hp' => ?_, fun b u q => ?_, I.len⟩
  · rw [upd_ne fun z => by rw [z, h0] at q; cases q]
    exact I.base.free b ob q n hx
  · have z := I.base.tups b xs q
    rw [upd_ne (ne b _ z)]; exact z
  · have z := I.base.frzs b ob u q
    rw [upd_ne (ne b _ z)]; exact z
  · obtain ⟨m, z⟩ := I.base.tbls b ps q
    exact ⟨m, by rw [upd_ne (ne b _ z)]; exact z⟩
  · rw [upd_ne (Ne.symm hL)]; exact I.free
  · rw [upd_ne (hc x c q)]; exact I.freeC x c q
  · obtain ⟨e1, e2, e3⟩ := I.pin p hp'
    exact ⟨e1, by rw [upd_ne (hp p hp')]; exact e2, e3⟩
  · by_cases hb : b = a
    · subst hb
      rw [upd_same] at q
      cases q
      exact ho
    · rw [upd_ne hb] at q
      exact (I.hok b u q).stay (fun c v _ r => r) (fun c r => by rw [upd_ne (ne c _ r)]; exact r) fun c xs r => by rw [upd_ne (ne c _ r)]; exact r
theorem left_inv {e C : Addr} (I : Inv X pins σ H s) (o : Own X) {ext : List Addr} {a0 fl : Value} {h2 : Heap} (hx : ∀ b ∈ ext, X.s₀.heap.get? b = none ∧ H b = none ∧ ∀ p ∈ X.pn ++ pins, p.1 ≠ b) (he : e ∈ ext)
    (L : Heap.NotedW (PySem.W.hideAll s.heap (frs X.stack ++ ext)) (X.env :: X.outer) e (.ref C) a0 fl s.heap h2) : Inv X pins σ H { s with heap := h2 } := by
  obtain ⟨u, hok, _⟩ := left_ok I o (fun b ob q => ⟨ob, q⟩) (o.up I) (fun b hb => ⟨(hx b hb).1, (hx b hb).2.1⟩) he L
  obtain ⟨k1, k2, _, k4⟩ := L
  have cellK : ∀ c v, s.heap.IsCell c v → h2.IsCell c v := fun c v ⟨ob, q, d⟩ => by
    obtain ⟨sl, e2⟩ := k4 c ob q fun vs z => by rw [d] at z; cases z
    exact ⟨_, e2, d⟩
  refine ⟨I.ok, I.os, I.bare, ?_, ?_, fun x c q => ?_, I.free, I.freeC, fun p hp => ?_, hok, I.len⟩
  · rw [o.ex]; exact u
  · obtain ⟨m, hn, hl⟩ := I.loc
    refine ⟨m, Heap.UpToSlots.ns k4 hn, fun i x v e1 e2 e3 => ?_⟩
    obtain ⟨uv, r, l⟩ := hl i x v e1 e2 e3
    refine ⟨uv, r, ?_⟩
    rcases l with l | ⟨k, c, q, z⟩
    · exact .inl l
    · exact .inr ⟨k, c, q, cellK c _ z⟩
  · obtain ⟨v, z⟩ := I.cell x c q
    exact ⟨v, cellK c v z⟩
  · obtain ⟨e1, e2, e3, e4, e5⟩ := I.pin p hp
    refine ⟨k1 _ _ (PySem.W.hideAll_get _ e1 fun z => ?_), e2, e3, e4, e5⟩
    rcases List.mem_append.mp z with z | z
    · rw [o.frs] at z
      rcases List.mem_cons.mp z with z | z
      · exact e3 z
      · exact e4 z
    · exact (hx p.1 z).2.2 p hp rfl
theorem excMatches_own {M : Model} {A : Around} {E : Value → Shared → Prop} {h : Heap} {g : Array GenState} {d : Drawn} {t : Nat} {os : OsState} {e C L : Addr} {oe : Obj} {Q : Bool → Shared → Prop}
    {nm q : Str} {N : Addr} {bs bm : List Value} {hdct : Bool} {sn : List Str} {sub : List Value} {ab : Bool} {col : Option Bool} {dd : Option Addr} {k0 k1 k2 k3 k5 : Option Value} {newId : String}
    {nm' q' : Str} {N' : Addr} {bs' bm' : List Value} {hdct' : Bool} {sn' : List Str} {sub' : List Value} {ab' : Bool} {col' : Option Bool} {dd' : Option Addr} {l0 l1 l2 l3 l5 : Option Value} {newId' : String}
    (hC : h.get? C = some (excClassObj nm q C N bs bm hdct sn sub ab col dd k0 k1 k2 k3 k5 newId)) (hL : h.get? L = some (excClassObj nm' q' L N' bs' bm' hdct' sn' sub' ab' col' dd' l0 l1 l2 l3 l5 newId'))
    (he : h.get? e = some oe) (hcls : oe.cls = .ref C) (hbase : bm'.contains (.type "BaseException") = true) (hsub : (Value.ref C :: bm).contains (.ref L) = true)
    (hq : Q true ⟨h, g, d, t, os⟩) : wpAny M A (excMatches (.ref e) (.ref L)) Q E ⟨h, g, d, t, os⟩ := by
  have hcB : (Value.ref L :: bm').contains (.type "BaseException") = true := by rw [List.contains_cons, hbase, Bool.or_true]
  have f := tc_notTuple
  unfold excMatches
  repeat (first | (with_reducible refine wpAny_loadPart_at he ?_; rw [hcls]) | with_reducible refine wpAny_loadPart_at hL ?_ | with_reducible refine wpAny_loadPart_at hC ?_ | (with_reducible refine wpAny_isSubtype_exc hL ?_; rw [hcB]) | (with_reducible refine wpAny_isSubtype_exc hC ?_; rw [hsub]) | wp_step)
  exact hq
abbrev Cx.tr (X : Cx) (xe : Value → Shared → Prop) (pn : List (Addr × Obj)) : Cx := { X with xe := xe, pn := pn }
abbrev Cx.hs (X : Cx) (v : Value) : Cx := { X with A := X.A.mark (some v), calm := false, xe := fun _ _ => False }
theorem Cx.Ok.tr {xe : Value → Shared → Prop} {pn : List (Addr × Obj)} (ok : X.Ok) : (X.tr xe pn).Ok :=
  ⟨ok.mod, ok.kind, ok.glob, ok.blt, ok.above, ok.inj, ok.has, ok.cab, ok.hd, ok.frames, ok.stk, ok.exf, ok.bs, ok.bsz, ok.noex, ok.exfs, ok.funs, ok.frf⟩
theorem Cx.Ok.untr {xe : Value → Shared → Prop} {pn : List (Addr × Obj)} (ok : (X.tr xe pn).Ok) : X.Ok :=
  ⟨ok.mod, ok.kind, ok.glob, ok.blt, ok.above, ok.inj, ok.has, ok.cab, ok.hd, ok.frames, ok.stk, ok.exf, ok.bs, ok.bsz, ok.noex, ok.exfs, ok.funs, ok.frf⟩
theorem Cx.Ok.hs {v : Value} (ok : X.Ok) : (X.hs v).Ok :=
  ⟨ok.mod, ok.kind, ok.glob, ok.blt, ok.above, ok.inj, ok.has, ok.cab, fun z => Bool.noConfusion z, ok.frames, ok.stk, ok.exf, ok.bs, ok.bsz, ok.noex, ok.exfs, ok.funs, ok.frf⟩
theorem Inv.tr {xe : Value → Shared → Prop} (I : Inv X pins σ H s) : Inv (X.tr xe (X.pn ++ pins)) [] σ H s :=
  ⟨I.ok.tr, I.os, I.bare, I.base, I.loc, I.cell, I.free, I.freeC, fun p hp => I.pin p (by simpa using hp), I.hok, I.len⟩
theorem Inv.untr {xe : Value → Shared → Prop} {pins' : List (Addr × Obj)} (I : Inv (X.tr xe (X.pn ++ pins)) pins' σ H s) : Inv X pins σ H s :=
  ⟨I.ok.untr, I.os, I.bare, I.base, I.loc, I.cell, I.free, I.freeC, fun p hp => I.pin p (List.mem_append_left _ hp), I.hok, I.len⟩
theorem SP.untr {xe : Value → Shared → Prop} {pins' : List (Addr × Obj)} {D : Ends} {f : Flow} {s' : Shared} (h : SP (X.tr xe (X.pn ++ pins)) pins' D f s') : SP X pins D f s' := by
  cases f with
  | next => obtain ⟨σ', H', I, q⟩ := h; exact ⟨σ', H', I.untr, q⟩
  | brk => obtain ⟨σ', H', I, q⟩ := h; exact ⟨σ', H', I.untr, q⟩
  | cont => obtain ⟨σ', H', I, q⟩ := h; exact ⟨σ', H', I.untr, q⟩
  | ret u => obtain ⟨v, σ', H', I, r, q⟩ := h; exact ⟨v, σ', H', I.untr, r, q⟩
theorem Inv.hs {v : Value} (I : Inv X pins σ H s) : Inv (X.hs v) pins σ H s :=
  ⟨I.ok.hs, I.os, I.bare, I.base, I.loc, I.cell, I.free, I.freeC, I.pin, I.hok, I.len⟩
theorem Inv.unhs {v : Value} (hd : X.calm = true → X.A.handled = none) (I : Inv (X.hs v) pins σ H s) : Inv X pins σ H s :=
  ⟨⟨I.ok.mod, I.ok.kind, I.ok.glob, I.ok.blt, I.ok.above, I.ok.inj, I.ok.has, I.ok.cab, hd, I.ok.frames, I.ok.stk, I.ok.exf, I.ok.bs, I.ok.bsz, I.ok.noex, I.ok.exfs, I.ok.funs, I.ok.frf⟩,
    I.os, I.bare, I.base, I.loc, I.cell, I.free, I.freeC, I.pin, I.hok, I.len⟩
theorem name_goesS {i : Nat} {n : Str} {pos : Pos} {M : Model} {A : Around} {E : Value → Shared → Prop} {Q : Unit → Shared → Prop} (I : Inv X pins σ H s) (hN : X.N.Nodup) (hi : X.N[i]? = some n) (hl : X.env.scope.names.lookup n = some .local)
    (h : ∀ h1, Heap.SameBut X.env.locals s.heap h1 → Inv X pins (σ.set i none) H { s with heap := h1, toks := s.toks + 1 } → Q () { s with heap := h1, toks := s.toks + 1 }) : wpAny M A (do bindName X.env n .none; unbindBehindTheSuite X.env n pos) Q E s := by
  obtain ⟨m, hn, hlk⟩ := id I.loc
  have hcls : (X.env.scope.kind == .class || (X.env.scope.kind == .module && X.env.locals != X.env.globals)) = false := by rw [I.ok.kind]; rfl
  have hiσ : i < σ.length := by rw [I.len]; exact (List.getElem?_eq_some_iff.mp hi).1
  refine wpAny_nameGoes_keeps hl hn hcls fun h1 v hn1 hs => h _ hs ?_
  have oldne : ∀ b ob, X.s₀.heap.get? b = some ob → b ≠ X.env.locals := fun b ob q => I.old_ne q
  refine ⟨I.ok, I.os, I.bare, ⟨fun b ob q n hb hx => (hs.2 b (oldne b ob q)).trans (I.base.keep b ob q n hb hx), fun b ob q n hb hx => ?_, I.base.free, fun b ob q hx => ?_, I.base.tups, I.base.frzs, I.base.tbls⟩,
    ⟨_, hn1, fun j y w e1 e2 e3 => ?_⟩, fun y c q => ?_, I.free, I.freeC, fun p hp => ?_, fun b u q => ?_, by simpa using I.len⟩
  · obtain ⟨sl, e1⟩ := I.base.slot b ob q n hb hx
    exact ⟨sl, (hs.2 b (oldne b ob q)).trans e1⟩
  · obtain ⟨o2, e1⟩ := I.base.there b ob q hx
    exact ⟨o2, (hs.2 b (oldne b ob q)).trans e1⟩
  · by_cases hj : j = i
    · subst hj
      rw [List.getElem?_set_self hiσ] at e2
      cases e2
    · rw [List.getElem?_set_ne (Ne.symm hj)] at e2
      obtain ⟨u, r, l⟩ := hlk j y w e1 e2 e3
      refine ⟨u, r, ?_⟩
      rcases l with ⟨k, q⟩ | ⟨k, c, q, z⟩
      · refine .inl ⟨k, ?_⟩
        have : y ≠ n := fun z => hj (nodup_ix hN e1 (z ▸ hi))
        show (if y = n then v else m y) = some u
        rw [if_neg this]
        exact q
      · exact .inr ⟨k, c, q, z.sameBut hs (I.cne y c q)⟩
  · obtain ⟨w', z⟩ := I.cell y c q
    exact ⟨w', z.sameBut hs (I.cne y c q)⟩
  · obtain ⟨e, e2, e3, e4, e5⟩ := I.pin p hp
    exact ⟨(hs.2 p.1 e3).trans e, e2, e3, e4, e5⟩
  · refine (I.hok b u q).stay (fun c w' hc r => (hs.2 c ?_).trans r) (fun _ z => z) fun _ _ z => z
    intro z
    subst z
    rcases hc with rfl | hc
    · rw [I.free] at q; cases q
    · rw [I.free] at hc; cases hc
theorem name_goes {i : Nat} {n : Str} {pos : Pos} {M : Model} {A : Around} {E : Value → Shared → Prop} {Q : Unit → Shared → Prop} (I : Inv X pins σ H s) (hN : X.N.Nodup) (hi : X.N[i]? = some n) (hl : X.env.scope.names.lookup n = some .local)
    (h : ∀ s', Inv X pins (σ.set i none) H s' → Q () s') : wpAny M A (do bindName X.env n .none; unbindBehindTheSuite X.env n pos) Q E s := name_goesS I hN hi hl fun h1 _ I1 => h _ I1
def tTry (L : Addr) (K : PySem.W.Frag) (i n : Nat) (tb : XK → TS) (th : TS) : TS := fun D σ H => ∃ E : XK, tb E D σ H ∧ ∀ C m H1, E (.ref C) m H1 →
  (∃ bm newId, PySem.W.excIn K C bm newId = true) ∧ PySem.W.mroIn K C (.ref L) = some true ∧
  ∀ a H2, Same H1 H2 → H2 a = some (excO a C) →
    th { nx := fun σ' H' => D.nx (σ'.set i none) H', rt := D.rt, bk := fun σ' H' => D.bk (σ'.set i none) H', ct := fun σ' H' => D.ct (σ'.set i none) H' } ((List.replicate n none).set i (some (.ref a))) H2
theorem ps_try {x n : Str} {i : Nat} {L : Addr} {body suite : List Stmt} {b0 : Stmt} {tb : XK → TS} {th : TS} {np hpos pos : Pos} {bmL : List Value} {newL : String} (o : Own X) (hc : X.calm = true) (hg : Gl X x) (hm : X.mg x = some (.ref L))
    (hq : PySem.W.excIn X.K L bmL newL = true) (hbL : bmL.contains (.type "BaseException") = true) (hN : X.N.Nodup) (hi : X.N[i]? = some n) (hl : X.env.scope.names.lookup n = some .local)
    (hb : ∀ (xe : Value → Shared → Prop) (pn : List (Addr × Obj)) (E : XK), Passes (CXF X.prog X.w) (X.tr xe pn) E → PSs (X.tr xe pn) body (tb E))
    (hs : ∀ v : Value, PSs (X.hs v) (b0 :: suite) th) (hd : (x == ("__debug__" : Str)) = false := by decide) :
    PS X (.Try body [.ExceptHandler (some (.Name x np)) (some n) (b0 :: suite) hpos] [] [] pos) (tTry L X.K i X.N.length tb th) := by
  intro pins s σ H D I h
  obtain ⟨E, hbody, hcatch⟩ := h
  refine wpAny_Try_except (wpAny_mono (hb (fun e s₁ => wpAny (model X.prog X.w) X.A (noteFrame e X.env) (fun _ s₂ => wpAny (model X.prog X.w) X.A (setFlight e none) (fun _ s₃ =>
      wpAny (model X.prog X.w) X.A (handleBy e X.env [.ExceptHandler (some (.Name x np)) (some n) (b0 :: suite) hpos]) (SP X pins D) X.xe s₃) X.xe s₂) X.xe s₁) (X.pn ++ pins) E ?_ [] s σ H D I.tr hbody)
    (fun f s1 q => ?_) fun e s1 q => q)
  · intro pins' σ1 H1 s1 ev s2 I1 hx
    obtain ⟨a, C, m, H2, rfl, os, bare, un, ok, fl, _, hE⟩ := hx
    obtain ⟨⟨bmC, newC, hqC⟩, hsub, hth⟩ := hcatch C m H2 hE
    have I2 : Inv X pins σ1 H2 s2 := (I1.call' os un ok bare (fun b z => absurd z (by simp))).untr
    -- what was there at the call
    have new_ne : ∀ {b : Addr}, s1.heap.get? b = none → b ≠ X.env.locals ∧ (∀ y c, X.env.cells.lookup y = some c → c ≠ b) ∧ (∀ p ∈ X.pn ++ pins, p.1 ≠ b) ∧ X.s₀.heap.get? b = none := fun {b} z => by
      have I0 : Inv X pins σ1 H1 s1 := I1.untr
      refine ⟨fun q => ?_, fun y c hy q => ?_, fun p hp q => ?_, ?_⟩
      · obtain ⟨m, ⟨ob, _, _, hob, _⟩, _⟩ := I0.loc
        rw [← q, z] at hob; cases hob
      · obtain ⟨v, ob, hob, _⟩ := I0.cell y c hy
        rw [q, z] at hob; cases hob
      · have e1 := (I0.pin p hp).1
        rw [q, z] at e1; cases e1
      · cases q : X.s₀.heap.get? b with
        | none => rfl
        | some ob =>
          obtain ⟨o2, e2⟩ := o.up I0 b ob q
          rw [z] at e2; cases e2
    have I0 : Inv X pins σ1 H1 s1 := I1.untr
    have h01 : ∀ b ob, s1.heap.get? b = some ob → ∃ o2, s2.heap.get? b = some o2 := fun b ob q => un.there b ob q (by simp)
    obtain ⟨oe, vs, T, oT, ts, a0, t1, t2, t4, t3, t5, t7, t8, t9, t10, t11, t12⟩ := fl.ex
    have hext : ∀ b ∈ [a, T], s1.heap.get? b = none ∧ H2 b = none := fun b hb' => by
      rcases List.mem_cons.mp hb' with rfl | hb'
      · exact ⟨fl.new, fl.nt⟩
      · have z : b = T := by simpa using hb'
        subst z
        exact ⟨t11, t12⟩
    have hfr : X.A.frames = some (X.env :: X.outer) := by rw [I.ok.frames, o.st]
    refine wpAny_noteFrame_onW (base := PySem.W.hideAll s2.heap (frs X.stack ++ [a, T])) (cls := .ref C) (a0 := a0) (outer := X.outer) hfr (hid_frames I2 o [a, T]) o.fr
      ⟨oe, vs, T, oT, ts, t1, ⟨t2, t3⟩, t4, t5, PySem.W.hideAll_none _ (by simp), t7, t8, t9, t10⟩ (fun b ob q => PySem.W.of_hideAll _ q) (PySem.W.hideAll_none _ (by simp)) fun h3 hN3 => ?_
    obtain ⟨n1, n2, n3, n4⟩ := hN3
    refine wpAny_setFlight_noneW (s := { s2 with heap := h3 }) n1 n2 n3 fun h4 m1 m2 m3 m4 => ?_
    have LW : Heap.LeftW (PySem.W.hideAll s2.heap (frs X.stack ++ [a, T])) (X.env :: X.outer) a (.ref C) a0 s2.heap h4 := ⟨m1, m2, m3, fun b ob q hnf => by
      obtain ⟨sl, e1⟩ := n4 b ob q hnf
      exact ⟨sl, m4 b _ e1 hnf⟩⟩
    obtain ⟨_, _, fl4⟩ := left_ok I2 o (o.up I0) h01 hext (by simp) LW
    have I4 : Inv X pins σ1 H2 { s2 with heap := h4 } := left_inv I2 o (fun b hb' => ⟨(new_ne (hext b hb').1).2.2.2, (hext b hb').2, (new_ne (hext b hb').1).2.2.1⟩) (by simp) LW
    have h04 : ∀ b ob, s1.heap.get? b = some ob → ∃ o2, h4.get? b = some o2 := fun b ob q => by
      obtain ⟨o2, e2⟩ := h01 b ob q
      by_cases hbf : b ∈ frs X.stack
      · obtain ⟨_, o3, ho3, hd3⟩ := I2.stack.mem hbf
        obtain ⟨sl, e4⟩ := LW.2.2.2 b o3 ho3 hd3
        exact ⟨_, e4⟩
      · refine ⟨o2, m1 b o2 (PySem.W.hideAll_get _ e2 fun z => (List.mem_append.mp z).elim hbf fun z => ?_)⟩
        rw [(hext b z).1] at q; cases q
    -- the class test
    have hkin : X.K.In h4 := I4.kIn
    obtain ⟨bC, NC, nmC, qnC, bsC, hdC, snC, subC, abC, colC, ddC, c0, c1, c2, c3, c5, mNC, hCK, _, _, _⟩ := excIn_obj hkin hqC
    obtain ⟨bL, NL, nmL, qnL, bsL, hdL, snL, subL, abL, colL, ddL, l0, l1, l2, l3, l5, mNL, hLK, _, _, TL⟩ := excIn_obj hkin hq
    have hmro : (Value.ref C :: bC).contains (.ref L) = true := by
      unfold PySem.W.mroIn PySem.W.clsIn at hsub
      rw [hCK] at hsub
      simpa [excClassObj] using hsub
    refine wpAny_handleBy_cons (codeAny_handlers_test ?_) (by intro q; cases q)
    have hglob : ∀ {E' : Value → Shared → Prop} {Q' : Value → Shared → Prop}, Q' (.ref L) { s2 with heap := h4 } → wpAny (model X.prog X.w) (X.A.mark (some (.ref a))) (eval (.Name x np) X.env) Q' E' { s2 with heap := h4 } := fun {E' Q'} q =>
      Calls.Name_function_global I.ok.kind hg (Calls.loadGlobal_global (by rw [I.ok.glob]; exact I4.mod.glob.keeps I4.bk) hm q) hd
    refine hglob ?_
    obtain ⟨oe4, vs4, T4, oT4, ts4, a04, u1, u2, u4, u3, u5, u7, u8, u9, u10, u11, u12⟩ := fl4.ex
    obtain ⟨hp2, g2, d2, tk2, os2⟩ := s2
    refine excMatches_own (hkin _ _ hCK) (hkin _ _ hLK) u1 u2 (TL.hasType hbL) hmro ?_
    show codeAny _ _ (.handlers _ _ _) _ _
    refine codeAny_handlers_suite_as ?_
    -- once more
    have hext4 : ∀ b ∈ [a, T4], s1.heap.get? b = none ∧ H2 b = none := fun b hb' => by
      rcases List.mem_cons.mp hb' with rfl | hb'
      · exact ⟨fl4.new, fl4.nt⟩
      · have z : b = T4 := by simpa using hb'
        subst z
        exact ⟨u11, u12⟩
    have kb4 : (PySem.W.hideAll h4 (frs X.stack ++ [a, T4])).StaysIn h4 := fun b ob q => PySem.W.of_hideAll _ q
    have fr4 := hid_frames I4 o [a, T4]
    refine wpAny_setFlight_noneW (s := ⟨h4, g2, d2, tk2, os2⟩) (base := PySem.W.hideAll h4 (frs X.stack ++ [a, T4])) (l := X.env :: X.outer) (cls := .ref C) (a0 := a04) (fl := .none) kb4 fr4
      ⟨oe4, vs4, T4, oT4, ts4, u1, ⟨u2, u3⟩, u4, u5, PySem.W.hideAll_none _ (by simp), u7, u8, u9, u10⟩ fun h5 r1 r2 r3 r4 => ?_
    have LW5 : Heap.LeftW (PySem.W.hideAll h4 (frs X.stack ++ [a, T4])) (X.env :: X.outer) a (.ref C) a04 h4 h5 := ⟨r1, r2, r3, fun b ob q hnf => ⟨ob.slots, r4 b ob q hnf⟩⟩
    obtain ⟨_, _, fl5⟩ := left_ok I4 o (o.up I0) h04 hext4 (by simp) LW5
    have I5 : Inv X pins σ1 H2 ⟨h5, g2, d2, tk2, os2⟩ := left_inv I4 o (fun b hb' => ⟨(new_ne (hext4 b hb').1).2.2.2, (hext4 b hb').2, (new_ne (hext4 b hb').1).2.2.1⟩) (by simp) LW5
    obtain ⟨oe5, vs5, T5, oT5, ts5, a05, v1, v2, v4, _⟩ := fl5.ex
    obtain ⟨ne1, ne2, ne3, ne4⟩ := new_ne fl5.new
    have I6 : Inv X pins σ1 (upd H2 a (excO a C)) ⟨h5, g2, d2, tk2, os2⟩ := I5.track fl5.nt ne4 ne1 ne2 ne3
      ⟨⟨oe5, vs5, v1, v2, v4⟩, ⟨oe5, v1⟩, fun k1 k2 ⟨ox, vx, y1, y2, y3⟩ kk => ⟨ox, vx, kk _ y1, y2, y3⟩⟩
    have I7 : Inv X pins (List.replicate X.N.length none) (upd H2 a (excO a C)) ⟨h5, g2, d2, tk2, os2⟩ := I6.weak (by rw [List.length_replicate, I6.len]) fun j v q => by
      rw [List.getElem?_replicate] at q
      split at q
      · cases q
      · cases q
    have S0 : Same H2 (upd H2 a (excO a C)) := fun b u q => by rw [upd_ne fun z => by rw [z, fl5.nt] at q; cases q]; exact q
    have hsu := hs (.ref a)
    refine store_ok (X := X.hs (.ref a)) (v := .ref a) I7.hs hN hi (.inl hl) rfl (fun s8 I8 => ?_) (.inr hl)
    refine wpAny_mono (hsu pins s8 _ _ _ I8 (hth a (upd H2 a (excO a C)) S0 upd_same)) (fun f s9 q9 => ?_) fun _ _ z => False.elim z
    have hdX : X.calm = true → X.A.handled = none := I.ok.hd
    cases f with
    | next =>
      obtain ⟨σ9, H9, I9, q⟩ := q9
      exact name_goes (I9.unhs hdX) hN hi hl fun s10 I10 => ⟨_, H9, I10, q⟩
    | brk =>
      obtain ⟨σ9, H9, I9, q⟩ := q9
      exact name_goes (I9.unhs hdX) hN hi hl fun s10 I10 => ⟨_, H9, I10, q⟩
    | cont =>
      obtain ⟨σ9, H9, I9, q⟩ := q9
      exact name_goes (I9.unhs hdX) hN hi hl fun s10 I10 => ⟨_, H9, I10, q⟩
    | ret u =>
      obtain ⟨v9, σ9, H9, I9, r9, q⟩ := q9
      exact name_goes (I9.unhs hdX) hN hi hl fun s10 I10 => ⟨v9, _, H9, I10, r9, q⟩
  · cases f with
    | next => exact wpAny_execs_nil q.untr
    | brk => exact q.untr
    | cont => exact q.untr
    | ret u => exact q.untr
end
end L2
set_option Elab.async false
set_option linter.all false
set_option maxRecDepth 100000
set_option maxHeartbeats 4000000
namespace L2
open PySem PySem.Spec PyProof.Rows
section
variable {prog : Program} {w : World} {A : Around} {R : Result → Shared → Prop} {s : Shared}
theorem compLoop_any {elt tg iter : Expr} {ifs : List Expr} {scope : Scope} {pos : Pos} {it acc : Value} {env : Env} (I : Nat → Shared → Prop)
    (turn : ∀ n s, I n s → wpAny (model prog w) A (pyNext it) (fun r s₁ => match r with
      | none => R (.ok .next) s₁
      | some v => wpAny (model prog w) A (letOwnedTupleGo tg it v) (fun _ t₁ => wpAny (model prog w) A (assign tg env v) (fun _ s₂ =>
          wpAny (model prog w) A (forIn ifs true fun c r => if r = true then do let ok ← isTrue c env (eval c env); pure (ForInStep.yield ok) else pure (ForInStep.yield r)) (fun ok s₃ =>
            if ok = true then wpAny (model prog w) A (eval elt env) (fun x s₄ => wpAny (model prog w) A (call (.builtin "list.append") [acc, x]) (fun _ s₅ => ∃ m, m < n ∧ I m s₅) (fun _ _ => False) s₄) (fun _ _ => False) s₃
            else ∃ m, m < n ∧ I m s₃) (fun _ _ => False) s₂) (fun _ _ => False) t₁) (fun _ _ => False) s₁) (fun _ _ => False) s)
    (n : Nat) (h : I n s) : codeAny (model prog w) A (.compLoop (.ListComp elt [⟨tg, iter, ifs, 0⟩] scope pos) 0 it acc env) R s := by
  refine codeAny_loop rfl I (fun n s hI => ?_) n h
  show wpAny _ A ((compTurn (.ListComp elt [⟨tg, iter, ifs, 0⟩] scope pos) 0 it acc env).onRaise (fun x => do noteFrame x env; theTreesLotGoes x)) _ _ s
  refine wpAny_noted ?_
  rw [compTurn_list]
  have no : ∀ (E : Value → Shared → Prop) (e : Value) (s : Shared), False → E e s := fun _ _ _ z => z.elim
  refine wpAny_bind (wpAny_standAt (wpAny_bind (wpAny_mono (turn n s hI) (fun r s₁ h₁ => ?_) (no _))))
  cases r with
  | none => exact wpAny_pure h₁
  | some v =>
    refine wpAny_bind (wpAny_mono h₁ (fun _ t₁ h₂ => ?_) (no _))
    refine wpAny_bind (wpAny_mono h₂ (fun _ s₂ h₃ => wpAny_bind (wpAny_mono h₃ (fun ok s₃ h₄ => ?_) (no _))) (no _))
    cases ok with
    | false => exact wpAny_pure ⟨rfl, h₄⟩
    | true => exact wpAny_bind (wpAny_bind (wpAny_mono h₄ (fun x s₄ h₅ => wpAny_bind (wpAny_mono h₅ (fun _ s₅ h₆ => wpAny_pure (wpAny_pure ⟨rfl, h₆⟩)) (no _))) (no _)))
end
def cxC (X : Cx) (N : List Str) (scope : Scope) (cl : List (Str × Addr)) (C : Addr) (s : Shared) (H : Hp) (fp : List Addr) : Cx :=
  { X with N := N, s₀ := s, H₀ := H, env := compEnvC scope cl C X.env, outer := X.stack, stack := X.stack, ex := fp, fn := fun _ => false, pn := [], xe := fun _ _ => False }
structure CompNames (X : Cx) (N : List Str) (js : List (Option Nat)) (scope : Scope) (cl : List (Str × Addr)) : Prop where
  kind : scope.kind = .function
  clos : closureFor scope X.env = pure cl
  nocell : ∀ y ∈ scope.names, y.2 ≠ .cell
  names : ∀ y ∈ scope.names, y.2 = .local → scope.names.lookup y.1 = some .local
  sub : ∀ x c, cl.lookup x = some c → X.env.cells.lookup x = some c
  has : ∀ x, ((compEnvC scope cl 0 X.env).kindOf x = some .cell ∨ (compEnvC scope cl 0 X.env).kindOf x = some .free) → ∃ c, cl.lookup x = some c
  len : js.length = N.length
  free : ∀ (i j : Nat) (x : Str), js[i]? = some (some j) → N[i]? = some x → X.N[j]? = some x ∧ ((compEnvC scope cl 0 X.env).kindOf x = some .cell ∨ (compEnvC scope cl 0 X.env).kindOf x = some .free) ∧
    (X.env.kindOf x = some .cell ∨ X.env.kindOf x = some .free)
def pickσ (js : List (Option Nat)) (σ : St) : St := js.map fun o => o.bind fun j => (σ[j]?).join
section
variable {X : Cx} {pins : List (Addr × Obj)} {σ : St} {H : Hp} {s : Shared} {N : List Str} {js : List (Option Nat)} {scope : Scope} {cl : List (Str × Addr)}
theorem comp_start {fp : List Addr} {h4 : Heap} {t' : Nat} (I : Inv X pins σ H s) (cn : CompNames X N js scope cl) (hfp : ∀ b ∈ fp, FpOk X pins H b) (hin : ∀ b ∈ fp, ∃ o, s.heap.get? b = some o)
    (ns : h4.Ns s.heap.objs.size fun _ => none) (sb : Heap.SameBut s.heap.objs.size (s.heap.push { cls := .type "dict", data := .dict #[] }) h4) :
    Inv (cxC X N scope cl s.heap.objs.size s H fp) [] (pickσ js σ) H { s with heap := h4, toks := t' } := by
  have keep : ∀ b o, s.heap.get? b = some o → h4.get? b = some o := fun b o e => (sb.2 b (Nat.ne_of_lt (Heap.lt_size e))).trans (Heap.get?_push_of_some _ e)
  have ltC : ∀ b ∈ fp, b < s.heap.objs.size := fun b hb => by obtain ⟨o, e⟩ := hin b hb; exact Heap.lt_size e
  refine ⟨⟨I.ok.mod, cn.kind, I.ok.glob, I.ok.blt, Nat.le_refl _, fun x y c e1 e2 => I.ok.inj x y c (cn.sub x c e1) (cn.sub y c e2), fun x hx => cn.has x hx, fun x c z => Bool.noConfusion z, I.ok.hd, I.ok.frames, .inl rfl, fun b hb => ⟨Nat.ne_of_lt (ltC b hb), fun x c e => (hfp b hb).2.2.2.2.1 x c (cn.sub x c e)⟩,
      I.bs, Nat.le_trans I.ok.bsz I.sz, fun b o e hb => ?_, fun b hb hf => ?_, I.stack, I.stkFree⟩,
    rfl, I.bare, Un.kept keep, ⟨_, ns, fun i x v e1 e2 e3 => ?_⟩, fun x c e => ?_, I.hok.fresh (Nat.le_refl _), fun x c e => I.freeC x c (cn.sub x c e), fun p hp => absurd (show p ∈ ([] : List (Addr × Obj)) from hp) (by simp), I.hok.kept keep, ?_⟩
  · rcases (hfp b hb).2.2.2.1 with z | z
    · exact I.ok.noex b o e z
    · exact absurd (Nat.lt_of_lt_of_le (Heap.lt_size e) (Nat.le_trans I.ok.bsz z)) (Nat.lt_irrefl _)
  · rcases List.mem_cons.mp (I.stkSub b hf) with z | z
    · exact (hfp b hb).2.1 z
    · exact (hfp b hb).2.2.1 z
  · have hp : ∃ j, js[i]? = some (some j) ∧ σ[j]? = some (some v) := by
      unfold pickσ at e2
      rw [List.getElem?_map] at e2
      cases q : js[i]? with
      | none => rw [q] at e2; cases e2
      | some oj =>
        rw [q] at e2
        cases oj with
        | none => cases e2
        | some j =>
          refine ⟨j, rfl, ?_⟩
          have e2' : (σ[j]?).join = some v := Option.some.inj e2
          cases z : σ[j]? with
          | none => rw [z] at e2'; cases e2'
          | some y => rw [z] at e2'; exact congrArg some e2'
    obtain ⟨j, q1, q2⟩ := hp
    obtain ⟨f1, f2, f3⟩ := cn.free i j x q1 e1
    obtain ⟨m, hn, hl⟩ := I.loc
    have vis : Vis X.env.scope x := by
      rcases f3 with z | z
      · exact .inr (.inl z)
      · exact .inr (.inr z)
    obtain ⟨u, r, l⟩ := hl j x v f1 q2 vis
    refine ⟨u, r, .inr ⟨f2, ?_⟩⟩
    rcases l with ⟨k, _⟩ | ⟨k, c, e, z⟩
    · rcases f3 with z | z
      · rw [k] at z; cases z
      · rw [k] at z; cases z
    · obtain ⟨c', e'⟩ := cn.has x f2
      have e'' := cn.sub x c' e'
      rw [e] at e''
      cases e''
      exact ⟨c, e', z.keeps keep⟩
  · obtain ⟨v, z⟩ := I.cell x c (cn.sub x c e)
    exact ⟨v, z.keeps keep⟩
  · unfold pickσ
    rw [List.length_map]
    exact cn.len
theorem comp_end {fp : List Addr} {σ2 : St} {H2 : Hp} {s2 : Shared} {pins2 : List (Addr × Obj)} {C : Addr} (I : Inv X pins σ H s) (hfp : ∀ b ∈ fp, FpOk X pins H b) (J : Inv (cxC X N scope cl C s H fp) pins2 σ2 H2 s2) : Inv X pins σ H2 s2 :=
  I.call' (ch := fp) J.os J.base J.hok J.bare fun b hb => ⟨(hfp b hb).2.2.2.1, (hfp b hb).2.1, (hfp b hb).2.2.2.2.1, (hfp b hb).2.2.2.2.2⟩
def tLC (js : List (Option Nat)) (wi : TI) (g : TG) (tt : TT) (te : TE) : TE := fun σ H Q => wi σ H fun J H1 => ∀ D, H1 D = none → ∃ W : Nat → Nat → St → Hp → Prop, (∃ m, W 0 m (pickσ js σ) (upd H1 D (.lst []))) ∧
  ∀ i m σ2 H2, W i m σ2 H2 → (J.stop i H2 ∧ Q (.ref D) H2) ∨ (J.go i H2 ∧ ∀ x H3, J.yld i H2 x H3 → g x σ2 H3 fun σ4 H4 => tt σ4 H4 fun b H5 =>
    if b = true then te σ4 H5 fun y H6 => ∃ xs, H6 D = some (.lst xs) ∧ xs.length < sizeLine ∧ ∃ m', m' < m ∧ W (i + 1) m' σ4 (upd H6 D (.lst (xs ++ [y]))) else ∃ m', m' < m ∧ W (i + 1) m' σ4 H5)
def tYes : TT := fun _ H Q => Q true H
def PTs (X : Cx) (ifs : List Expr) (t : TT) : Prop :=
  ∀ (pins : List (Addr × Obj)) (s : Shared) (σ : St) (H : Hp) (Q : Bool → Hp → Prop), Inv X pins σ H s → t σ H Q →
    wpAny (model X.prog X.w) X.A (forIn ifs true fun c r => if r = true then do let ok ← isTrue c X.env (eval c X.env); pure (ForInStep.yield ok) else pure (ForInStep.yield r)) (TP X pins σ Q) X.xe s
theorem pts_nil : PTs X [] tYes := fun _ _ _ H _ I h => wpAny_tests_nil ⟨H, I, h⟩
theorem comp_block {elt tg iter : Expr} {ifs : List Expr} {pos : Pos} {g : TG} {tt : TT} {te : TE} {J : It} {H1 : Hp} {it : Addr} {fp : List Addr} {tn : Nat → Heap → Prop} {s2 : Shared} {QD : V → Hp → Prop} {RR : Value → Addr → Result → Shared → Prop} {E : Value → Shared → Prop}
    (hc : X.calm = true) (cn : CompNames X N js scope cl)
    (hg : ∀ C s H fp, PG (cxC X N scope cl C s H fp) tg g) (ht : ∀ C s H fp, PTs (cxC X N scope cl C s H fp) ifs tt) (he : ∀ C s H fp, PE (cxC X N scope cl C s H fp) elt te)
    (I : Inv X pins σ H1 s2) (T : Turn X.prog X.w X.K tg J fp it tn) (st0 : tn 0 s2.heap) (hfp : ∀ b ∈ fp, FpOk X pins H1 b)
    (h : ∀ D, H1 D = none → ∃ W : Nat → Nat → St → Hp → Prop, (∃ m, W 0 m (pickσ js σ) (upd H1 D (.lst []))) ∧
      ∀ i m σ2 H2, W i m σ2 H2 → (J.stop i H2 ∧ QD (.ref D) H2) ∨ (J.go i H2 ∧ ∀ x H3, J.yld i H2 x H3 → g x σ2 H3 fun σ4 H4 => tt σ4 H4 fun b H5 =>
        if b = true then te σ4 H5 fun y H6 => ∃ xs, H6 D = some (.lst xs) ∧ xs.length < sizeLine ∧ ∃ m', m' < m ∧ W (i + 1) m' σ4 (upd H6 D (.lst (xs ++ [y]))) else ∃ m', m' < m ∧ W (i + 1) m' σ4 H5))
    (hRR : ∀ (D C : Addr) (H2 : Hp) (s5 : Shared) (m : Str → Option Value), Inv X pins σ H2 s5 → s5.heap.Ns C m → H2 C = none → C ≠ X.env.locals → X.s₀.heap.objs.size ≤ C → (∀ x c, X.env.cells.lookup x = some c → c ≠ C) → (∀ p ∈ X.pn ++ pins, p.1 ≠ C) → QD (.ref D) H2 → RR (.ref D) C (.ok .next) s5) :
    wpAny (model X.prog X.w) X.A (newList []) (fun acc s₃ => wpAny (model X.prog X.w) X.A (newFunctionEnv scope X.env.globals cl [] X.env.qual none .none (some X.env)) (fun cenv s₄ =>
      codeAny (model X.prog X.w) X.A (.compStart (.ListComp elt [⟨tg, iter, ifs, 0⟩] scope pos) 0 (.ref it) acc { cenv with scope := relabel scope X.env }) (RR acc cenv.locals) s₄) E s₃) E s2 := by
  have I3 : Inv X pins σ (upd H1 s2.heap.objs.size (.lst [])) { s2 with heap := s2.heap.push { cls := .type "list", data := .seq ([] : List Value).toArray }, toks := s2.toks } := I.lnew .nil (Nat.zero_le _)
  refine wpAny_newObj_type (wpAny_newFunctionEnv cn.nocell (by intro y hy; simp at hy) (fun h4 ns4 sb4 => ?_) cn.kind)
  obtain ⟨W, ⟨m0, w0⟩, turn⟩ := h s2.heap.objs.size I.fresh
  have hD : H1 s2.heap.objs.size = none := I.fresh
  have lt2 : ∀ b ∈ fp, b < s2.heap.objs.size := fun b hb => by obtain ⟨o, e, _⟩ := T.obj 0 _ st0 b hb; exact Heap.lt_size e
  have hfp3 : ∀ b ∈ fp, FpOk X pins (upd H1 s2.heap.objs.size (.lst [])) b := fun b hb => ⟨by rw [upd_ne (Nat.ne_of_lt (lt2 b hb))]; exact (hfp b hb).1, (hfp b hb).2⟩
  have hin3 : ∀ b ∈ fp, ∃ o, (s2.heap.push { cls := .type "list", data := .seq ([] : List Value).toArray }).get? b = some o := fun b hb => by
    obtain ⟨o, e, _⟩ := T.obj 0 _ st0 b hb
    exact ⟨o, Heap.get?_push_of_some _ e⟩
  have I4 : Inv (cxC X N scope cl (s2.heap.push { cls := .type "list", data := .seq ([] : List Value).toArray }).objs.size { s2 with heap := s2.heap.push { cls := .type "list", data := .seq ([] : List Value).toArray }, toks := s2.toks } (upd H1 s2.heap.objs.size (.lst [])) fp) [] (pickσ js σ) (upd H1 s2.heap.objs.size (.lst []))
      { s2 with heap := h4, toks := s2.toks + ([] : List (Str × Value)).length } := comp_start (t' := s2.toks + ([] : List (Str × Value)).length) I3 cn hfp3 hin3 ns4 sb4
  have ltC : ∀ b ∈ fp, b < (s2.heap.push { cls := .type "list", data := .seq ([] : List Value).toArray }).objs.size := fun b hb => by rw [Heap.size_push]; exact Nat.lt_succ_of_lt (lt2 b hb)
  have st4 : tn 0 h4 := T.keep 0 _ _ st0 fun b hb o e => (sb4.2 b (Nat.ne_of_lt (ltC b hb))).trans (Heap.get?_push_of_some _ (Heap.get?_push_of_some _ e))
  have loop : codeAny (model X.prog X.w) X.A (.compLoop (.ListComp elt [⟨tg, iter, ifs, 0⟩] scope pos) 0 (.ref it) (.ref s2.heap.objs.size) (compEnvC scope cl (s2.heap.push { cls := .type "list", data := .seq ([] : List Value).toArray }).objs.size X.env))
      (RR (.ref s2.heap.objs.size) (s2.heap.push { cls := .type "list", data := .seq ([] : List Value).toArray }).objs.size) { s2 with heap := h4, toks := s2.toks + ([] : List (Str × Value)).length } := by
    generalize hCe : (s2.heap.push { cls := .type "list", data := .seq ([] : List Value).toArray }).objs.size = C at *
    generalize hse : ({ s2 with heap := s2.heap.push { cls := .type "list", data := .seq ([] : List Value).toArray }, toks := s2.toks } : Shared) = s3 at *
    have stat : ∀ {H' : Hp}, (∀ b ∈ fp, H' b = none) → ∀ b ∈ fp, FpOk (cxC X N scope cl C s3 (upd H1 s2.heap.objs.size (.lst [])) fp) [] H' b := fun hn b hb =>
      ⟨hn b hb, Nat.ne_of_lt (ltC b hb), I4.ok.exfs b hb, .inl hb, fun x c e => (hfp b hb).2.2.2.2.1 x c (cn.sub x c e), fun p hp => absurd (show p ∈ ([] : List (Addr × Obj)) from hp) (by simp)⟩
    refine compLoop_any (fun n s' => ∃ i σ' H', Inv (cxC X N scope cl C s3 (upd H1 s2.heap.objs.size (.lst [])) fp) [] σ' H' s' ∧ tn i s'.heap ∧ (∀ b ∈ fp, H' b = none) ∧ W i n σ' H') ?_ m0 ⟨0, _, _, I4, st4, fun b hb => (hfp3 b hb).1, w0⟩
    rintro n s5 ⟨i, σ5, H5, I5, st5, fr5, w5⟩
    rcases turn i n σ5 H5 w5 with ⟨stop, qn⟩ | ⟨go, step⟩
    · refine thn (T.done (cxC X N scope cl C s3 (upd H1 s2.heap.objs.size (.lst [])) fp) rfl rfl rfl hc i [] s5 σ5 H5 (fun _ _ => False) I5 (stat fr5) st5 stop) fun r s6 ⟨hr, I6⟩ => ?_
      subst hr
      obtain ⟨mC, nsC, _⟩ := id I6.loc
      have IX : Inv X pins σ H5 s6 := comp_end I3 hfp3 I6
      refine hRR _ C H5 s6 mC IX nsC I6.free ?_ ?_ ?_ ?_ qn
      · have := I3.lt; rw [← hCe]; exact Nat.ne_of_gt (by rw [← hse] at this; exact this)
      · have := I3.sz; rw [← hCe]; rw [← hse] at this; exact this
      · intro x c e z
        obtain ⟨v, q⟩ := I3.cell x c e
        have := q.lt
        rw [z, ← hCe, ← hse] at this
        exact absurd this (Nat.lt_irrefl _)
      · intro p hp z
        have := Heap.lt_size (I3.pin p hp).1
        rw [z, ← hCe, ← hse] at this
        exact absurd this (Nat.lt_irrefl _)
    · refine thn (T.item (cxC X N scope cl C s3 (upd H1 s2.heap.objs.size (.lst [])) fp) rfl rfl rfl hc i [] s5 σ5 H5 (fun _ _ => False) I5 (stat fr5) st5 go) fun r s6 ⟨u, hr, h6⟩ => ?_
      subst hr
      refine thn h6 fun _ s7 ⟨x, H7, I7, r7, y7, st7, fr7⟩ => ?_
      have I7' := I7.pinned (stat fr7) (T.obj _ _ st7)
      refine thn (hg C s3 _ fp _ s7 σ5 H7 x u _ I7' r7 (step x H7 y7)) fun _ s8 ⟨σ8, H8, I8, q8⟩ => ?_
      refine thn (ht C s3 _ fp _ s8 σ8 H8 _ I8 q8) fun ok s9 ⟨H9, I9, q9⟩ => ?_
      have again : ∀ {s' : Shared} {H' : Hp}, Inv (cxC X N scope cl C s3 (upd H1 s2.heap.objs.size (.lst [])) fp) ([] ++ pinsAt fp s7.heap) σ8 H' s' → (∃ m', m' < n ∧ W (i + 1) m' σ8 H') →
          ∃ m, m < n ∧ ∃ i σ' H', Inv (cxC X N scope cl C s3 (upd H1 s2.heap.objs.size (.lst [])) fp) [] σ' H' s' ∧ tn i s'.heap ∧ (∀ b ∈ fp, H' b = none) ∧ W i m σ' H' := fun {s' H'} I' ⟨m', hm, w'⟩ =>
        ⟨m', hm, i + 1, σ8, H', I'.unpinned, T.keep _ _ _ st7 fun b hb o e => (I'.pin (b, o) (List.mem_append_right _ (List.mem_append_right _ (mem_pinsAt hb e)))).1, fun b hb => by
          obtain ⟨o, e, d⟩ := T.obj _ _ st7 b hb
          exact (I'.pin (b, o) (List.mem_append_right _ (List.mem_append_right _ (mem_pinsAt hb e)))).2.1, w'⟩
      cases ok with
      | false =>
        rw [if_neg Bool.false_ne_true]
        rw [if_neg Bool.false_ne_true] at q9
        exact again I9 q9
      | true =>
        rw [if_pos rfl]
        rw [if_pos rfl] at q9
        refine thn (he C s3 _ fp _ s9 σ8 H9 _ I9 q9) fun y s10 ⟨yv, H10, I10, r10, xs, hxs, hz, q10⟩ => ?_
        refine thn (mt_append _ s10 σ8 H10 (.ref s2.heap.objs.size) [yv] _ [y] (fun _ H' => ∃ m', m' < n ∧ W (i + 1) m' σ8 H') I10 rfl (.cons r10 .nil) ⟨_, xs, yv, rfl, rfl, hxs, hz, q10⟩) fun _ s11 ⟨_, H11, I11, _, q11⟩ => again I11 q11
  exact codeAny_compStart_list loop (T.self _ 0 _ _ _ st4 loop)
theorem pe_lc {elt tg iter : Expr} {ifs : List Expr} {pos : Pos} {wi : TI} {g : TG} {tt : TT} {te : TE} (hc : X.calm = true) (cn : CompNames X N js scope cl) (hi : PI X tg iter wi)
    (hg : ∀ C s H fp, PG (cxC X N scope cl C s H fp) tg g) (ht : ∀ C s H fp, PTs (cxC X N scope cl C s H fp) ifs tt) (he : ∀ C s H fp, PE (cxC X N scope cl C s H fp) elt te)
    (hs : ∀ x, foldedSetIterable iter X.env x = pure x := by intro _; rfl) : PE X (.ListComp elt [⟨tg, iter, ifs, 0⟩] scope pos) (tLC js wi g tt te) := by
  intro pins s σ H Q I h
  rw [eval_ListComp]
  refine wpAny_comprehension_free (use := none) rfl hs cn.clos cn.kind cn.names (thn (hi pins s σ H _ I h) fun v s1 h1 => thn h1 fun itv s2 h2 => ?_)
  obtain ⟨it, fp, tn, J, H2, rfl, I2, T, st2, f2, q⟩ := h2
  refine comp_block (RR := fun acc C => compPost (model X.prog X.w) X.A X.xe none (EP X pins σ Q) acc C) hc cn hg ht he I2 T st2 f2 q ?_
  intro D C H3 s3 m I3 ns hC hL h0 hcl hp q3
  exact ⟨m, ns, fun h' sb => ⟨.ref D, H3, I3.turned (t' := s3.toks) (fun b o hb e => (sb.2 b hb).trans e) hC hL (.inr h0) hcl hp, rfl, q3⟩⟩
end
end L2
set_option Elab.async false
set_option linter.all false
set_option maxRecDepth 100000
set_option maxHeartbeats 4000000
namespace L2
open PySem PySem.Spec PyProof.Rows
section
variable {X : Cx} {pins : List (Addr × Obj)} {σ : St} {H : Hp} {s : Shared} {h' : Heap}
end
section
variable {X : Cx}
end
section
variable {X : Cx}
end
end L2
set_option Elab.async false
set_option linter.all false
set_option maxRecDepth 100000
set_option maxHeartbeats 4000000
namespace L2
open PySem PySem.Spec PyProof.Rows
mutual
/-- the value v bears the datum d -/
def Rep (K : PySem.W.Frag) (H : Hp) : PyData → V → Prop
  | .none, v => v = .non
  | .bool b, v => v = .bl b
  | .int i, v => v = .int i
  | .str x, v => v = .str x
  | .list ds, v => ∃ a xs, v = .ref a ∧ SqL K H a xs ∧ RepL K H ds xs
  | .tuple ds, v => ∃ a xs, v = .ref a ∧ SqT K H a xs ∧ RepL K H ds xs
  | .dict _, _ => False
def RepL (K : PySem.W.Frag) (H : Hp) : List PyData → List V → Prop
  | [], xs => xs = []
  | d :: ds, xs => ∃ y ys, xs = y :: ys ∧ Rep K H d y ∧ RepL K H ds ys
end
section
variable {K : PySem.W.Frag} {H H' : Hp}
theorem RepL.nil : RepL K H [] [] := by unfold RepL; rfl
theorem RepL.cons {d : PyData} {ds : List PyData} {x : V} {xs : List V} (h : Rep K H d x) (t : RepL K H ds xs) : RepL K H (d :: ds) (x :: xs) := by
  unfold RepL
  exact ⟨x, xs, rfl, h, t⟩
theorem RepL.uncons {d : PyData} {ds : List PyData} {xs : List V} (h : RepL K H (d :: ds) xs) : ∃ y ys, xs = y :: ys ∧ Rep K H d y ∧ RepL K H ds ys := by
  unfold RepL at h
  exact h
theorem RepL.unnil {xs : List V} (h : RepL K H [] xs) : xs = [] := by
  unfold RepL at h
  exact h
theorem Rep.int {i : Int} : Rep K H (.int i) (.int i) := by unfold Rep; rfl
theorem Rep.str {x : Str} : Rep K H (.str x) (.str x) := by unfold Rep; rfl
theorem Rep.bool {b : Bool} : Rep K H (.bool b) (.bl b) := by unfold Rep; rfl
theorem Rep.none : Rep K H .none .non := by unfold Rep; rfl
theorem Rep.list {a : Addr} {xs : List V} {ds : List PyData} (h : SqL K H a xs) (r : RepL K H ds xs) : Rep K H (.list ds) (.ref a) := by unfold Rep; exact ⟨a, xs, rfl, h, r⟩
theorem Rep.tuple {a : Addr} {xs : List V} {ds : List PyData} (h : SqT K H a xs) (r : RepL K H ds xs) : Rep K H (.tuple ds) (.ref a) := by unfold Rep; exact ⟨a, xs, rfl, h, r⟩
theorem Rep.int_of {i : Int} {v : V} (h : Rep K H (.int i) v) : v = .int i := by unfold Rep at h; exact h
theorem Rep.str_of {x : Str} {v : V} (h : Rep K H (.str x) v) : v = .str x := by unfold Rep at h; exact h
theorem Rep.bool_of {b : Bool} {v : V} (h : Rep K H (.bool b) v) : v = .bl b := by unfold Rep at h; exact h
theorem Rep.none_of {v : V} (h : Rep K H .none v) : v = .non := by unfold Rep at h; exact h
theorem Rep.list_of {ds : List PyData} {v : V} (h : Rep K H (.list ds) v) : ∃ a xs, v = .ref a ∧ SqL K H a xs ∧ RepL K H ds xs := by unfold Rep at h; exact h
theorem Rep.tuple_of {ds : List PyData} {v : V} (h : Rep K H (.tuple ds) v) : ∃ a xs, v = .ref a ∧ SqT K H a xs ∧ RepL K H ds xs := by unfold Rep at h; exact h
theorem Same.seqT {a : Addr} {xs : List V} (e : Same H H') (h : SqT K H a xs) : SqT K H' a xs := by
  rcases h with (h | ⟨o, h⟩) | h
  · exact .inl (.inl (e _ _ h))
  · exact .inl (.inr ⟨o, e _ _ h⟩)
  · exact .inr h
mutual
theorem Rep.mono (e : Same H H') : ∀ {d : PyData} {v : V}, Rep K H d v → Rep K H' d v
  | .none, _, h => by rw [h.none_of]; exact Rep.none
  | .bool b, _, h => by rw [h.bool_of]; exact Rep.bool
  | .int i, _, h => by rw [h.int_of]; exact Rep.int
  | .str x, _, h => by rw [h.str_of]; exact Rep.str
  | .list ds, _, h => by
    obtain ⟨a, xs, rfl, q, r⟩ := h.list_of
    exact Rep.list (e.seq q) (RepL.mono e r)
  | .tuple ds, _, h => by
    obtain ⟨a, xs, rfl, q, r⟩ := h.tuple_of
    exact Rep.tuple (e.seqT q) (RepL.mono e r)
  | .dict _, _, h => by unfold Rep at h; exact h.elim
theorem RepL.mono (e : Same H H') : ∀ {ds : List PyData} {xs : List V}, RepL K H ds xs → RepL K H' ds xs
  | [], _, h => by rw [h.unnil]; exact RepL.nil
  | d :: ds, _, h => by
    obtain ⟨y, ys, rfl, r, t⟩ := h.uncons
    exact RepL.cons (Rep.mono e r) (RepL.mono e t)
end
theorem RepL.length : ∀ {ds : List PyData} {xs : List V}, RepL K H ds xs → ds.length = xs.length
  | [], _, h => by rw [h.unnil]; rfl
  | d :: ds, _, h => by
    obtain ⟨y, ys, rfl, r, t⟩ := h.uncons
    simp [RepL.length t]
theorem RepL.get : ∀ {ds : List PyData} {xs : List V} {i : Nat} {d : PyData}, RepL K H ds xs → ds[i]? = some d → ∃ x, xs[i]? = some x ∧ Rep K H d x
  | [], _, _, _, h, e => by simp at e
  | d :: ds, _, 0, _, h, e => by
    obtain ⟨y, ys, rfl, r, t⟩ := h.uncons
    simp at e
    subst e
    exact ⟨y, rfl, r⟩
  | d :: ds, _, i + 1, _, h, e => by
    obtain ⟨y, ys, rfl, r, t⟩ := h.uncons
    obtain ⟨x, q1, q2⟩ := RepL.get (i := i) t (by simpa using e)
    exact ⟨x, by simpa using q1, q2⟩
theorem RepL.append : ∀ {ds es : List PyData} {xs ys : List V}, RepL K H ds xs → RepL K H es ys → RepL K H (ds ++ es) (xs ++ ys)
  | [], _, _, _, h, t => by rw [h.unnil]; exact t
  | d :: ds, _, _, _, h, t => by
    obtain ⟨y, ys, rfl, r, t'⟩ := h.uncons
    exact RepL.cons r (RepL.append t' t)
theorem RepL.take : ∀ {ds : List PyData} {xs : List V} (n : Nat), RepL K H ds xs → RepL K H (ds.take n) (xs.take n)
  | _, _, 0, _ => by simp; exact RepL.nil
  | [], _, n + 1, h => by rw [h.unnil]; simp; exact RepL.nil
  | d :: ds, _, n + 1, h => by
    obtain ⟨y, ys, rfl, r, t⟩ := h.uncons
    simp only [List.take_succ_cons]
    exact RepL.cons r (RepL.take n t)
theorem RepL.drop : ∀ {ds : List PyData} {xs : List V} (n : Nat), RepL K H ds xs → RepL K H (ds.drop n) (xs.drop n)
  | _, _, 0, h => by simpa using h
  | [], _, n + 1, h => by rw [h.unnil]; simp; exact RepL.nil
  | d :: ds, _, n + 1, h => by
    obtain ⟨y, ys, rfl, r, t⟩ := h.uncons
    simp only [List.drop_succ_cons]
    exact RepL.drop n t
theorem RepL.ints : ∀ (ns : List Int), RepL K H (ns.map .int) (ns.map .int)
  | [] => RepL.nil
  | n :: ns => RepL.cons Rep.int (RepL.ints ns)
theorem RepL.ints_of : ∀ {ns : List Int} {xs : List V}, RepL K H (ns.map .int) xs → xs = ns.map .int
  | [], _, h => h.unnil
  | n :: ns, _, h => by
    obtain ⟨y, ys, rfl, r, t⟩ := RepL.uncons h
    rw [r.int_of, RepL.ints_of t]
    rfl
end
section
variable {X : Cx} {pins : List (Addr × Obj)} {σ : St} {H : Hp} {s : Shared}
mutual
theorem Inv.reads (I : Inv X pins σ H s) : ∀ {d : PyData} {v : V} {u : Value}, Rep X.K H d v → RelV v u → ∃ as, Reads s.heap u d as
  | .none, _, _, h, r => by rw [h.none_of] at r; cases r; exact ⟨_, .none⟩
  | .bool b, _, _, h, r => by rw [h.bool_of] at r; cases r; exact ⟨_, .bool b⟩
  | .int i, _, _, h, r => by rw [h.int_of] at r; obtain ⟨t, rfl⟩ := r; exact ⟨_, .int i t⟩
  | .str x, _, _, h, r => by rw [h.str_of] at r; obtain ⟨t, rfl⟩ := r; exact ⟨_, .str x t⟩
  | .list ds, _, _, h, r => by
    obtain ⟨a, xs, rfl, q, t⟩ := h.list_of
    cases r
    obtain ⟨its, rv, ⟨o, n, e, c, _, d⟩, _⟩ := I.list q
    obtain ⟨as, ra⟩ := I.readsAll t rv
    exact ⟨_, .list e c d (by simpa using ra)⟩
  | .tuple ds, _, _, h, r => by
    obtain ⟨a, xs, rfl, q, t⟩ := h.tuple_of
    cases r
    obtain ⟨its, rv, ⟨o, e, c, n, d⟩, _⟩ := I.tuple q
    obtain ⟨as, ra⟩ := I.readsAll t rv
    exact ⟨_, .tuple e c d (by simpa using ra)⟩
  | .dict _, _, _, h, _ => by unfold Rep at h; exact h.elim
theorem Inv.readsAll (I : Inv X pins σ H s) : ∀ {ds : List PyData} {xs : List V} {us : List Value}, RepL X.K H ds xs → Vals xs us → ∃ as, ReadsAll s.heap us ds as
  | [], _, _, h, r => by rw [h.unnil] at r; cases r; exact ⟨_, .nil⟩
  | d :: ds, _, _, h, r => by
    obtain ⟨y, ys, rfl, p, t⟩ := h.uncons
    cases r with
    | cons r1 r2 =>
      obtain ⟨as, ra⟩ := I.reads p r1
      obtain ⟨bs, rb⟩ := I.readsAll t r2
      exact ⟨_, .cons ra rb⟩
end
def rEqD (K : PySem.W.Frag) (neg : Bool) : R2 := fun x y H Q => ∃ d e, Rep K H d x ∧ Rep K H e y ∧ d.canLay0 = true ∧ e.canLay0 = true ∧ min d.depth e.depth ≤ 60 ∧ Q (.bl (if neg then !PyData.eqv d e else PyData.eqv d e)) H
theorem op_eqD (hu : X.A.units + 64 < cLine) : OpR X (compareOp .Eq) (rEqD X.K false) := by
  intro pins s σ H x y v u Q I rx ry h
  obtain ⟨d, e, hd, he, c1, c2, hm, q⟩ := h
  obtain ⟨as, ra⟩ := I.reads hd rx
  obtain ⟨bs, rb⟩ := I.reads he ry
  exact SeqAt.compareEq_reads ra rb c1 c2 (by omega) ⟨.bl _, H, I, rfl, q⟩
theorem op_neD (hu : X.A.units + 64 < cLine) : OpR X (compareOp .NotEq) (rEqD X.K true) := by
  intro pins s σ H x y v u Q I rx ry h
  obtain ⟨d, e, hd, he, c1, c2, hm, q⟩ := h
  obtain ⟨as, ra⟩ := I.reads hd rx
  obtain ⟨bs, rb⟩ := I.reads he ry
  exact SeqAt.compareNe_reads ra rb c1 c2 (by omega) ⟨.bl _, H, I, rfl, q⟩
def clsV : V → Option Value
  | .ty n => some (.type n)
  | .ref C => some (.ref C)
  | _ => Option.none
theorem call_isinst : CallR X (.builtin "isinstance") (fun xs H Q => ∃ x c t cv b, xs = [x, c] ∧ clsV c = some cv ∧ TyOf X.K H x t ∧ PySem.W.kitOne X.K t cv = some b ∧ Q (.bl b) H) := by
  intro pins s σ H xs us Q I r h
  obtain ⟨x, c, t, cv, b, rfl, hc, ty, hk, q⟩ := h
  obtain ⟨u, u', rfl, ru, ru'⟩ := vals2 r
  have e : u' = cv := by
    cases c with
    | ty n => cases ru'; cases hc; rfl
    | ref C => cases ru'; cases hc; rfl
    | _ => cases hc
  subst e
  exact isinst_ok I ru ty hk fun tk => ⟨.bl b, H, I.tok tk, rfl, q⟩
theorem log2_small {n : Nat} (h : n < 10 ^ 20) : n.log2 < 1920 := by
  by_cases h0 : n = 0
  · subst h0; decide
  · rw [Nat.log2_lt h0]
    exact Nat.lt_of_lt_of_le h (Nat.le_trans (by decide : 10 ^ 20 ≤ 2 ^ 67) (Nat.pow_le_pow_right (by decide) (by decide)))
def PStr (X : Cx) (e : Expr) (pre : St → Hp → Prop) (n : Nat) : Prop :=
  ∀ (pins : List (Addr × Obj)) (s : Shared) (σ : St) (H : Hp), Inv X pins σ H s → pre σ H → wpAny (model X.prog X.w) X.A (eval e X.env) (fun u s' => ∃ x t, u = .str x t ∧ x.length ≤ n ∧ Inv X pins σ H s') X.xe s
theorem pstr_const {x : Str} {j : Nat} {pos : Pos} : PStr X (.Constant (.str x) j pos) (fun _ _ => True) x.length :=
  fun _ _ _ _ I _ => Calls.Constant_str ⟨x, _, rfl, Nat.le_refl _, I.tok _⟩
theorem pstr_int (i : Nat) {x : Str} {p pos : Pos} (hN : X.N[i]? = some x := by rfl) (hv : Vis X.env.scope x := by first | exact Or.inl rfl | exact Or.inr (Or.inl rfl) | exact Or.inr (Or.inr rfl)) (hd : (x == ("__debug__" : Str)) = false := by decide)
    (hcd : (x == ("__classdict__" : Str)) = false := by decide) : PStr X (.FormattedValue (.Name x p) (-1) none pos) (fun σ _ => ∃ k : Int, σ[i]? = some (some (.int k)) ∧ k.natAbs < 10 ^ 20) 21 := by
  intro pins s σ H I h
  obtain ⟨k, e1, hk⟩ := h
  refine wpAny_FormattedValue_plain (thn ((pe_var hN hv hd hcd) pins s σ H (fun v H1 => v = .int k ∧ H1 = H) I ⟨_, e1, rfl, rfl⟩) fun u s1 ⟨v, H1, I1, r1, e2, e3⟩ => ?_)
  subst e2 e3
  obtain ⟨t, rfl⟩ := r1
  have hl := int_text_length_le10 (k := 20) (by decide) hk
  refine wpAny_formatField_int (log2_small hk) ⟨_, _, rfl, ?_, I1.tok _⟩
  rw [PySem.ofString_length]
  exact hl
theorem pstr_strr (i : Nat) {x : Str} {p pos : Pos} (hN : X.N[i]? = some x := by rfl) (hv : Vis X.env.scope x := by first | exact Or.inl rfl | exact Or.inr (Or.inl rfl) | exact Or.inr (Or.inr rfl)) (hd : (x == ("__debug__" : Str)) = false := by decide)
    (hcd : (x == ("__classdict__" : Str)) = false := by decide) : PStr X (.FormattedValue (.Name x p) 114 none pos) (fun σ _ => ∃ y : Str, σ[i]? = some (some (.str y)) ∧ y.length ≤ 1000 ∧ ∀ c ∈ y.cps.toList, c < 16 ^ 8) 10002 := by
  intro pins s σ H I h
  obtain ⟨y, e1, hy, hc⟩ := h
  refine wpAny_FormattedValue_repr (thn ((pe_var hN hv hd hcd) pins s σ H (fun v H1 => v = .str y ∧ H1 = H) I ⟨_, e1, rfl, rfl⟩) fun u s1 ⟨v, H1, I1, r1, e2, e3⟩ => ?_)
  subst e2 e3
  obtain ⟨t, rfl⟩ := r1
  have hl := PySem.StrLaws.reprText_len y hc
  have hz : (reprText y).length ≤ 10002 := by omega
  refine pyReprObj_str (wpAny_formatField_str ⟨_, _, rfl, hz, I1.tok _⟩ ⟨_, _, rfl, hz, (I1.tok _).tok _⟩ (by rw [sizeLine_eq]; omega)) (by rw [sizeLine_eq]; omega)
theorem tupleText_le (ts : List Str) : (tupleText ts).length ≤ piled ts + 3 := by
  unfold tupleText
  rw [strLen_append, strLen_append]
  have e1 : ((("(" : String) : Str)).length = 1 := rfl
  have e3 : (((if ts.length == 1 then ",)" else ")" : String) : Str)).length ≤ 2 := by split <;> decide
  rw [e1]
  by_cases h : ts = []
  · subst h
    have e2 : (Str.join ", " ([] : List Str)).length = 0 := rfl
    rw [e2]
    omega
  · have := join_length_add ts h
    omega
theorem ints_shown : ∀ (ns : List Int), (∀ k ∈ ns, k.natAbs < 10 ^ 20) → piled (PyData.shownAll (ns.map .int)) ≤ 23 * ns.length ∧ PyData.showableAll (ns.map .int) = true ∧ PyData.hasDictAll (ns.map .int) = false ∧ PyData.depthAll (ns.map .int) = 0
  | [], _ => ⟨Nat.le_refl _, rfl, rfl, rfl⟩
  | k :: ns, h => by
    obtain ⟨h1, h2, h3, h4⟩ := ints_shown ns fun j hj => h j (List.mem_cons_of_mem _ hj)
    have hk := h k List.mem_cons_self
    have hl := int_text_length_le10 (k := 20) (by decide) hk
    have hz : (Str.ofString (toString k)).length ≤ 21 := by rw [PySem.ofString_length]; exact hl
    refine ⟨?_, ?_, ?_, ?_⟩
    · show piled ((Str.ofString (toString k)) :: PyData.shownAll (ns.map .int)) ≤ _
      rw [piled_cons, List.length_cons]
      omega
    · show (PyData.showable (.int k) && PyData.showableAll (ns.map .int)) = true
      rw [h2, Bool.and_true]
      unfold PyData.showable
      exact decide_eq_true (log2_small hk)
    · show (PyData.hasDict (.int k) || PyData.hasDictAll (ns.map .int)) = false
      rw [h3]
      rfl
    · show max (PyData.depth (.int k)) (PyData.depthAll (ns.map .int)) = 0
      rw [h4]
      rfl
theorem pstr_tupr {kr : Nat} (hr : Room kr X.A) (i : Nat) {x : Str} {p pos : Pos} (hN : X.N[i]? = some x := by rfl) (hv : Vis X.env.scope x := by first | exact Or.inl rfl | exact Or.inr (Or.inl rfl) | exact Or.inr (Or.inr rfl)) (hd : (x == ("__debug__" : Str)) = false := by decide)
    (hcd : (x == ("__classdict__" : Str)) = false := by decide) : PStr X (.FormattedValue (.Name x p) 114 none pos) (fun σ H => ∃ (a : Addr) (ns : List Int), σ[i]? = some (some (.ref a)) ∧ SqT X.K H a (ns.map .int) ∧ ns.length ≤ 100 ∧ ∀ k ∈ ns, k.natAbs < 10 ^ 20) 2303 := by
  intro pins s σ H I h
  obtain ⟨a, ns, e1, hq, hl, hk⟩ := h
  refine wpAny_FormattedValue_repr (thn ((pe_var hN hv hd hcd) pins s σ H (fun v H1 => v = .ref a ∧ H1 = H) I ⟨_, e1, rfl, rfl⟩) fun u s1 ⟨v, H1, I1, r1, e2, e3⟩ => ?_)
  subst e2 e3
  obtain ⟨as, ra⟩ := I1.reads (Rep.tuple hq (RepL.ints ns)) r1
  cases r1
  obtain ⟨h1, h2, h3, h4⟩ := ints_shown ns hk
  have hz : (PyData.shown (.tuple (ns.map .int))).length ≤ 2303 := by
    have := tupleText_le (PyData.shownAll (ns.map .int))
    show (tupleText (PyData.shownAll (ns.map .int))).length ≤ 2303
    omega
  have hu := hr.un
  refine pyReprObj_of_reads ra h2 (fun z => by have z' : PyData.hasDictAll (ns.map .int) = true := z; rw [h3] at z'; cases z') hr.gd (by show X.A.units + (PyData.depthAll (ns.map .int) + 1) < cLine; rw [h4]; omega) (fun _ _ e => e) (fun h' u tk kk => ?_) (by rw [sizeLine_eq]; omega)
  have I2 : Inv X pins σ _ { s1 with heap := h', toks := tk } := I1.kept kk
  exact wpAny_formatField_str ⟨_, _, rfl, hz, I2⟩ ⟨_, _, rfl, hz, I2.tok _⟩ (by rw [sizeLine_eq]; omega)
theorem pstr_g {x : Str} {k : Int} {p pos : Pos} (h : PE X (.Name x p) (tC (.int k))) (hk : k.natAbs < 10 ^ 20) : PStr X (.FormattedValue (.Name x p) (-1) none pos) (fun _ _ => True) 21 := by
  intro pins s σ H I _
  refine wpAny_FormattedValue_plain (thn (h pins s σ H (fun v H1 => v = .int k ∧ H1 = H) I ⟨rfl, rfl⟩) fun u s1 ⟨v, H1, I1, r1, e2, e3⟩ => ?_)
  subst e2 e3
  obtain ⟨t, rfl⟩ := r1
  have hl := int_text_length_le10 (k := 20) (by decide) hk
  refine wpAny_formatField_int (log2_small hk) ⟨_, _, rfl, ?_, I1.tok _⟩
  rw [PySem.ofString_length]
  exact hl
def PStrs (X : Cx) (es : List Expr) (pre : St → Hp → Prop) (n : Nat) : Prop :=
  ∀ (pins : List (Addr × Obj)) (s : Shared) (σ : St) (H : Hp) (acc : Str) (Q : Str → Shared → Prop), Inv X pins σ H s → pre σ H → acc.length + n ≤ sizeLine → (∀ out s1, out.length ≤ acc.length + n → Inv X pins σ H s1 → Q out s1) →
    Joins (model X.prog X.w) X.A X.xe (evalEach es X.env) acc Q s
theorem pstrs_nil : PStrs X [] (fun _ _ => True) 0 := fun _ s _ _ acc _ I _ _ q => q acc s (Nat.le_add_right _ _) I
theorem pstrs_cons {e : Expr} {es : List Expr} {p q : St → Hp → Prop} {n m : Nat} (h : PStr X e p n) (t : PStrs X es q m) (hs : evalEach (e :: es) X.env = eval e X.env :: evalEach es X.env := by rfl) : PStrs X (e :: es) (fun σ H => p σ H ∧ q σ H) (n + m) := by
  intro pins s σ H acc Q I hp hz hQ
  rw [hs]
  refine thn (h pins s σ H I hp.1) fun u s1 ⟨x, t1, e1, hx, I1⟩ => ⟨x, t1, e1, by rw [strLen_append]; omega, ?_⟩
  exact t pins s1 σ H (acc ++ x) Q I1 hp.2 (by rw [strLen_append]; omega) fun out s2 ho I2 => hQ out s2 (by rw [strLen_append] at ho; omega) I2
theorem pe_fstr {v1 v2 : Expr} {rest : List Expr} {pre : St → Hp → Prop} {n : Nat} {pos : Pos} (h : PStrs X (v1 :: v2 :: rest) pre n) : PE X (.JoinedStr (v1 :: v2 :: rest) pos) (fun σ H Q => pre σ H ∧ n ≤ sizeLine ∧ ∀ x : Str, x.length ≤ n → Q (.str x) H) := by
  intro pins s σ H Q I hw
  obtain ⟨hp, hz, hq⟩ := hw
  have e0 : (Str.empty : Str).length = 0 := rfl
  refine wpAny_JoinedStr (h pins s σ H Str.empty _ I hp (by rw [e0]; omega) fun out s1 ho I1 => ?_)
  rw [e0] at ho
  exact ⟨by omega, .str out, H, I1.tok _, ⟨_, rfl⟩, hq out (by omega)⟩
end
end L2
set_option Elab.async false
set_option linter.all false
set_option maxRecDepth 100000
set_option maxHeartbeats 4000000
namespace L2
open PySem PySem.Spec PyProof.Rows
section
variable {prog : Program} {w : World} {A : Around} {I : Addr} {fp wr : List Addr} {n : Nat} {P : Nat → Value → Prop} {St : Nat → Heap → Prop}
end
section
variable {prog : Program} {w : World} {A : Around} {E : Value → Shared → Prop} {s : Shared}
end
section
variable {X : Cx}
theorem vals_find {y : V} : ∀ {xs : List V} {us : List Value} {j : Nat}, Vals xs us → xs.all flatV = true → xs.findIdx? (fun z => eqV z y) = some j →
    ∃ hj : j < us.length, eqU y us[j] = true ∧ ∀ m (hm : m < us.length), m < j → eqU y us[m] = false
  | _, _, _, .nil, _, e => by simp at e
  | x :: xs, u :: us, j, .cons r t, f, e => by
    rw [List.all_cons, Bool.and_eq_true] at f
    rw [List.findIdx?_cons] at e
    by_cases hx : eqV x y = true
    · rw [if_pos hx] at e
      cases e
      exact ⟨by simp, by simpa [eqU_of r f.1] using hx, fun m hm hlt => absurd hlt (Nat.not_lt_zero _)⟩
    · rw [if_neg hx] at e
      cases q : xs.findIdx? (fun z => eqV z y) with
      | none => rw [q] at e; cases e
      | some i =>
        rw [q] at e
        have e' : i + 1 = j := Option.some.inj e
        subst e'
        obtain ⟨h1, h2, h3⟩ := vals_find t f.2 q
        refine ⟨by simpa using h1, by simpa using h2, fun m hm hlt => ?_⟩
        cases m with
        | zero => simpa [eqU_of r f.1] using hx
        | succ m => simpa using h3 m (by simpa using hm) (by omega)
theorem vals_count {y : V} : ∀ {xs : List V} {us : List Value}, Vals xs us → xs.all flatV = true → us.countP (eqU y) = xs.countP fun z => eqV z y
  | _, _, .nil, _ => rfl
  | x :: xs, u :: us, .cons r t, f => by
    rw [List.all_cons, Bool.and_eq_true] at f
    rw [List.countP_cons, List.countP_cons, eqU_of r f.1, vals_count t f.2]
def rIndex (K : PySem.W.Frag) : V → List V → Hp → VK → Prop := fun x vs H Q => ∃ l xs y j, x = .ref l ∧ vs = [y] ∧ SqL K H l xs ∧ xs.all flatV = true ∧ flatV y = true ∧ xs.findIdx? (fun z => eqV z y) = some j ∧ Q (.int (j : Nat)) H
theorem mt_index : MtR X "list.index" (rIndex X.K) := by
  intro pins s σ H x vs v us Q I rx rv h
  obtain ⟨l, xs, y, j, rfl, rfl, hq, fx, fy, hj, q⟩ := h
  cases rx
  obtain ⟨u, rfl, ru⟩ := vals1 rv
  obtain ⟨its, r, ⟨o, n, e, c, dn, d⟩, hz⟩ := I.list hq
  obtain ⟨h1, h2, h3⟩ := vals_find r fx hj
  obtain ⟨oc, od, odt, osl⟩ := o
  have c' : oc = .type "list" := c
  have d' : odt = .seq its.toArray n := d
  subst c' d'
  have hl := r.length
  refine call_meets PySem.F.slot_list_index ⟨_, e, rfl⟩ PySem.F.entry_list_index (PySem.F.args_list_index_2 _ _) (SeqAt.list_indexAt l its.toArray n od osl u (eqU y) j (by simpa using h1) (by rw [sizeLine_eq] at hz; omega) (by simpa using h2) (fun m hm hlt => by simpa using h3 m (by simpa using hm) hlt))
    ⟨e, fun w hw => mem_eqAt ru fy r fx w (by simpa using hw), ⟨.int (j : Nat), H, I.tok _, ⟨_, rfl⟩, q⟩⟩
def rCount (K : PySem.W.Frag) : V → List V → Hp → VK → Prop := fun x vs H Q => ∃ l xs y, x = .ref l ∧ vs = [y] ∧ SqL K H l xs ∧ xs.all flatV = true ∧ flatV y = true ∧ Q (.int (xs.countP fun z => eqV z y : Nat)) H
theorem mt_count : MtR X "list.count" (rCount X.K) := by
  intro pins s σ H x vs v us Q I rx rv h
  obtain ⟨l, xs, y, rfl, rfl, hq, fx, fy, q⟩ := h
  cases rx
  obtain ⟨u, rfl, ru⟩ := vals1 rv
  obtain ⟨its, r, ⟨o, n, e, c, dn, d⟩, hz⟩ := I.list hq
  obtain ⟨oc, od, odt, osl⟩ := o
  have c' : oc = .type "list" := c
  have d' : odt = .seq its.toArray n := d
  subst c' d'
  refine call_meets PySem.F.slot_list_count ⟨_, e, rfl⟩ PySem.F.entry_list_count (PySem.F.args_list_count_2 _ _) (SeqAt.list_countAt l its.toArray n od osl u (eqU y))
    ⟨e, fun w hw => mem_eqAt ru fy r fx w (by simpa using hw), ⟨.int _, H, I.tok _, ⟨s.toks, ?_⟩, q⟩⟩
  rw [show its.toArray.toList = its from rfl, vals_count r fx]
end
end L2
set_option Elab.async false
set_option linter.all false
set_option maxRecDepth 100000
set_option maxHeartbeats 4000000
namespace L2
open PySem PySem.Spec PyProof.Rows PySem.W PySem.Builtin.Getset_descriptor
section
variable {prog : Program} {w : World} {A : Around} {R : Result → Shared → Prop} {E : Value → Shared → Prop} {s : Shared} {K : Frag} {x C : Addr} {oe : Obj}
theorem exc_type {M : Model} {h : Heap} (hx : h.get? x = some oe) (hc : oe.cls = .ref C) : Looks M h (typeOf (.ref x)) (.ref C) := hc ▸ (Looks.ld hx).andThen .now
theorem exc_get {tp : Value} (X : K.In s.heap) (hx : s.heap.get? x = some oe) (hc : oe.cls = .ref C) (hm : mroIn K C (.type "object") = some true)
    (h : R (.ok (.ret (.ref C))) s) : codeAny (model prog w) A (.call (.builtin "getset_descriptor.__get__") ⟨[.builtin "object.__class__", .ref x, tp], []⟩) R s := by
  obtain ⟨hh, g, dr, t, os⟩ := s
  have L0 := exc_type (M := model prog w) hx hc
  have L1 := looks_mroIn (M := model prog w) X hm
  refine codeAny_call_builtin KF.slot_gs.plain KF.entry_gs ?_
  refine KF.slot_gs.check _ _ _ _ _ _ _ _ KF.type_class (KF.args_gs _ _ _) ?_
  unfold Builtin.«getset_descriptor.__get__» descrGet
  rw [dga_obj]
  refine wpAny_bind (wpAny_pure ?_)
  unfold descrGetter descrCheckInstance descrNameAndClass isInstance
  simp only [KF.owner_class]
  repeat lk
  refine ⟨Code.quiet_builtin _ (by decide +kernel), codeAny_builtin KF.entry_class ?_⟩
  unfold Builtin.«object.__class__» shownTypeOf
  repeat lk
  exact h
structure ExcLook (K : Frag) (C : Addr) : Prop where
  ga : findIn K (.ref C) "__getattribute__" = some (some (.builtin "BaseException.__getattribute__"))
  gt : findIn K (.ref C) "__getattr__" = some none
  cl : findIn K (.ref C) "__class__" = some (some (.builtin "object.__class__"))
  mo : mroIn K C (.type "object") = some true
  mb : mroIn K C (.type "BaseException") = some true
  is : ∃ cd, clsIn K C = some cd
theorem exc_entry {tk : Tok} {Q : Fin → Shared → Prop} (X : K.In s.heap) (L : ExcLook K C) (hx : s.heap.get? x = some oe) (hc : oe.cls = .ref C) (hq : Q (.done (.ret (.ref C))) s) :
    wpAny (model prog w) A (Builtin.«object.__getattribute__» ⟨[.ref x, .str "__class__" tk], []⟩) Q E s := by
  obtain ⟨hh, g, d, t, os⟩ := s
  have hT5 : (⟨hh, g, d, t, os⟩ : Shared).TypeIs (.builtin "object.__class__") "getset_descriptor" := F.typeOf_object_class
  have f5 := F.typeOf_object_class
  have f6 := F.slot_gs_get.lookup
  have f7 := F.slot_gs_set.lookup
  have L0 := exc_type (M := model prog w) hx hc
  have L1 := looks_findIn (M := model prog w) X L.cl
  repeat (any_goals (first | assumption | with_reducible refine L0.at ?_ | with_reducible refine L1.at ?_ | (with_reducible refine wpAny_loadPart_at hx ?_; rw [hc]) | wp_step))
  refine exc_get X hx hc L.mo ?_
  repeat (any_goals (first | assumption | wp_step))
theorem exc_check {M : Model} {nameV : Value} {Q : Unit → Shared → Prop} (X : K.In s.heap) (L : ExcLook K C) (hx : s.heap.get? x = some oe) (hc : oe.cls = .ref C) (hq : Q () s) :
    wpAny M A (checkBuiltinCall "BaseException.__getattribute__" ⟨[.ref x, nameV], []⟩) Q E s := by
  obtain ⟨hh, g, d, t, os⟩ := s
  have hk : builtinKind "BaseException.__getattribute__" = some .slot := by decide +kernel
  have hs : splitId "BaseException.__getattribute__" = some ("BaseException", "__getattribute__") := by decide +kernel
  have ha := F.args_bexc_ga (.ref x) nameV
  have L0 := exc_type (M := M) hx hc
  have L2 := looks_mroIn (M := M) X L.mb
  unfold checkBuiltinCall
  simp only [hk, hs]
  refine wpAny_bind ?_
  unfold isInstance
  refine wpAny_bind (L0.at (L2.at ?_))
  repeat (any_goals (first | assumption | wp_step))
theorem exc_attr {Q : Option Value → Shared → Prop} (X : K.In s.heap) (L : ExcLook K C) (hx : s.heap.get? x = some oe) (hc : oe.cls = .ref C) (hq : Q (some (.ref C)) { s with toks := s.toks + 1 }) :
    wpAny (model prog w) A (getAttr? (.ref x) "__class__") Q E s := by
  obtain ⟨hh, g, d, t, os⟩ := s
  have FB := F.excAttr_ValueError
  have f3 := FB.ga.bind (.ref x)
  have hx2 : (Value.builtin "BaseException.__getattribute__" == Value.builtin "object.__getattribute__") = false := by decide +kernel
  have hx1 : (onTheHeap (Value.ref C) && Value.builtin "BaseException.__getattribute__" == Value.builtin "object.__getattribute__") = false := by rw [hx2]; rfl
  have L0 := exc_type (M := model prog w) hx hc
  have L1 := looks_findIn (M := model prog w) X L.ga
  have L2 := looks_findIn (M := model prog w) X L.gt
  unfold getAttr? getAttrBy? getAttrBy
  repeat (any_goals (first | assumption | with_reducible refine L0.at ?_ | with_reducible refine L1.at ?_ | with_reducible refine L2.at ?_ | wp_step))
  refine codeAny_call_builtin FB.ga.plain F.entry_bexc_ga (exc_check X L hx hc (exc_entry X L hx hc ?_))
  repeat (any_goals (first | assumption | wp_step))
theorem kitx_exc (L : ExcLook K C) : KitX K (.ref x) (.ref C) (fun h => ∃ oe : Obj, h.get? x = some oe ∧ oe.cls = .ref C) where
  ty := fun _ _ _ ⟨_, h1, h2⟩ => exc_type h1 h2
  it := fun _ _ X _ => by
    obtain ⟨cd, e⟩ := L.is
    unfold clsIn at e
    split at e
    · rename_i c' d' cd' sl' ho
      intro A' Q' E' s' k q
      unfold isType loadHead
      exact wpAny_bind (wpAny_loadPart (k _ _ (X _ _ ho)) (wpAny_pure q))
    · cases e
  ne := fun h tp dd its n sl X htp => by
    obtain ⟨cd, hcl⟩ := L.is
    refine Bool.eq_false_iff.mpr fun q => ?_
    have e : C = tp := Value.ref.inj (beq_iff_eq.mp q)
    subst e
    unfold clsIn at hcl
    split at hcl
    · rename_i ho
      have z := (X _ _ ho).symm.trans htp
      cases z
    · cases hcl
  ca := fun X ⟨_, h1, h2⟩ k => exc_attr X L h1 h2 k
end
section
variable {X : Cx}
theorem call_isinstX : CallR X (.builtin "isinstance") (fun xs H Q => ∃ a C c cv b, xs = [.ref a, c] ∧ clsV c = some cv ∧ H a = some (excO a C) ∧ ExcLook X.K C ∧ kitOne X.K (.ref C) cv = some b ∧ Q (.bl b) H) := by
  intro pins s σ H xs us Q I r h
  obtain ⟨a, C, c, cv, b, rfl, hc, hH, L, hk, q⟩ := h
  obtain ⟨u, u', rfl, ru, ru'⟩ := vals2 r
  have e : u' = cv := by
    cases c with
    | ty n => cases ru'; cases hc; rfl
    | ref C => cases ru'; cases hc; rfl
    | _ => cases hc
  subst e
  cases ru
  obtain ⟨⟨oe, vs, h1, h2, _⟩, _⟩ := (show ObjOk X.prog X.w H s.heap a (excO a C) from I.hok a _ hH)
  exact kia_one (kitx_exc L) I.kIn ⟨oe, h1, h2⟩ hk (fun z => nomatch z) fun tk => ⟨.bl b, H, I.tok tk, rfl, q⟩
end
end L2
set_option Elab.async false
set_option linter.all false
set_option maxRecDepth 100000
set_option maxHeartbeats 4000000
namespace L2
open PySem PySem.Spec PyProof.Rows
mutual
/-- the value v bears the datum d -/
def Dat (H : Hp) : PyData → V → Prop
  | .none, v => v = .non
  | .bool b, v => v = .bl b
  | .int i, v => v = .int i
  | .str x, v => v = .str x
  | .list ds, v => ∃ a xs, v = .ref a ∧ H a = some (.lst xs) ∧ DatL H ds xs
  | .tuple ds, v => ∃ a xs, v = .ref a ∧ H a = some (.tup xs) ∧ DatL H ds xs
  | .dict _, _ => False
def DatL (H : Hp) : List PyData → List V → Prop
  | [], xs => xs = []
  | d :: ds, xs => ∃ y ys, xs = y :: ys ∧ Dat H d y ∧ DatL H ds ys
end
section
variable {H H' : Hp}
theorem DatL.nil : DatL H [] [] := by unfold DatL; rfl
theorem DatL.cons {d : PyData} {ds : List PyData} {x : V} {xs : List V} (h : Dat H d x) (t : DatL H ds xs) : DatL H (d :: ds) (x :: xs) := by
  unfold DatL
  exact ⟨x, xs, rfl, h, t⟩
theorem DatL.uncons {d : PyData} {ds : List PyData} {xs : List V} (h : DatL H (d :: ds) xs) : ∃ y ys, xs = y :: ys ∧ Dat H d y ∧ DatL H ds ys := by
  unfold DatL at h
  exact h
theorem DatL.unnil {xs : List V} (h : DatL H [] xs) : xs = [] := by
  unfold DatL at h
  exact h
theorem Dat.int {i : Int} : Dat H (.int i) (.int i) := by unfold Dat; rfl
theorem Dat.str {x : Str} : Dat H (.str x) (.str x) := by unfold Dat; rfl
theorem Dat.bool {b : Bool} : Dat H (.bool b) (.bl b) := by unfold Dat; rfl
theorem Dat.none : Dat H .none .non := by unfold Dat; rfl
theorem Dat.list {a : Addr} {xs : List V} {ds : List PyData} (h : H a = some (.lst xs)) (r : DatL H ds xs) : Dat H (.list ds) (.ref a) := by unfold Dat; exact ⟨a, xs, rfl, h, r⟩
theorem Dat.tuple {a : Addr} {xs : List V} {ds : List PyData} (h : H a = some (.tup xs)) (r : DatL H ds xs) : Dat H (.tuple ds) (.ref a) := by unfold Dat; exact ⟨a, xs, rfl, h, r⟩
theorem Dat.int_of {i : Int} {v : V} (h : Dat H (.int i) v) : v = .int i := by unfold Dat at h; exact h
theorem Dat.str_of {x : Str} {v : V} (h : Dat H (.str x) v) : v = .str x := by unfold Dat at h; exact h
theorem Dat.bool_of {b : Bool} {v : V} (h : Dat H (.bool b) v) : v = .bl b := by unfold Dat at h; exact h
theorem Dat.none_of {v : V} (h : Dat H .none v) : v = .non := by unfold Dat at h; exact h
theorem Dat.list_of {ds : List PyData} {v : V} (h : Dat H (.list ds) v) : ∃ a xs, v = .ref a ∧ H a = some (.lst xs) ∧ DatL H ds xs := by unfold Dat at h; exact h
theorem Dat.tuple_of {ds : List PyData} {v : V} (h : Dat H (.tuple ds) v) : ∃ a xs, v = .ref a ∧ H a = some (.tup xs) ∧ DatL H ds xs := by unfold Dat at h; exact h
mutual
theorem Dat.mono (e : Same H H') : ∀ {d : PyData} {v : V}, Dat H d v → Dat H' d v
  | .none, _, h => by rw [h.none_of]; exact Dat.none
  | .bool b, _, h => by rw [h.bool_of]; exact Dat.bool
  | .int i, _, h => by rw [h.int_of]; exact Dat.int
  | .str x, _, h => by rw [h.str_of]; exact Dat.str
  | .list ds, _, h => by
    obtain ⟨a, xs, rfl, q, r⟩ := h.list_of
    exact Dat.list (e _ _ q) (DatL.mono e r)
  | .tuple ds, _, h => by
    obtain ⟨a, xs, rfl, q, r⟩ := h.tuple_of
    exact Dat.tuple (e _ _ q) (DatL.mono e r)
  | .dict _, _, h => by unfold Dat at h; exact h.elim
theorem DatL.mono (e : Same H H') : ∀ {ds : List PyData} {xs : List V}, DatL H ds xs → DatL H' ds xs
  | [], _, h => by rw [h.unnil]; exact DatL.nil
  | d :: ds, _, h => by
    obtain ⟨y, ys, rfl, r, t⟩ := h.uncons
    exact DatL.cons (Dat.mono e r) (DatL.mono e t)
end
theorem DatL.length : ∀ {ds : List PyData} {xs : List V}, DatL H ds xs → ds.length = xs.length
  | [], _, h => by rw [h.unnil]; rfl
  | d :: ds, _, h => by
    obtain ⟨y, ys, rfl, r, t⟩ := h.uncons
    simp [DatL.length t]
theorem DatL.get : ∀ {ds : List PyData} {xs : List V} {i : Nat} {d : PyData}, DatL H ds xs → ds[i]? = some d → ∃ x, xs[i]? = some x ∧ Dat H d x
  | [], _, _, _, h, e => by simp at e
  | d :: ds, _, 0, _, h, e => by
    obtain ⟨y, ys, rfl, r, t⟩ := h.uncons
    simp at e
    subst e
    exact ⟨y, rfl, r⟩
  | d :: ds, _, i + 1, _, h, e => by
    obtain ⟨y, ys, rfl, r, t⟩ := h.uncons
    obtain ⟨x, q1, q2⟩ := DatL.get (i := i) t (by simpa using e)
    exact ⟨x, by simpa using q1, q2⟩
theorem DatL.append : ∀ {ds es : List PyData} {xs ys : List V}, DatL H ds xs → DatL H es ys → DatL H (ds ++ es) (xs ++ ys)
  | [], _, _, _, h, t => by rw [h.unnil]; exact t
  | d :: ds, _, _, _, h, t => by
    obtain ⟨y, ys, rfl, r, t'⟩ := h.uncons
    exact DatL.cons r (DatL.append t' t)
theorem DatL.take : ∀ {ds : List PyData} {xs : List V} (n : Nat), DatL H ds xs → DatL H (ds.take n) (xs.take n)
  | _, _, 0, _ => by simp; exact DatL.nil
  | [], _, n + 1, h => by rw [h.unnil]; simp; exact DatL.nil
  | d :: ds, _, n + 1, h => by
    obtain ⟨y, ys, rfl, r, t⟩ := h.uncons
    simp only [List.take_succ_cons]
    exact DatL.cons r (DatL.take n t)
theorem DatL.drop : ∀ {ds : List PyData} {xs : List V} (n : Nat), DatL H ds xs → DatL H (ds.drop n) (xs.drop n)
  | _, _, 0, h => by simpa using h
  | [], _, n + 1, h => by rw [h.unnil]; simp; exact DatL.nil
  | d :: ds, _, n + 1, h => by
    obtain ⟨y, ys, rfl, r, t⟩ := h.uncons
    simp only [List.drop_succ_cons]
    exact DatL.drop n t
theorem DatL.ints : ∀ (ns : List Int), DatL H (ns.map .int) (ns.map .int)
  | [] => DatL.nil
  | n :: ns => DatL.cons Dat.int (DatL.ints ns)
theorem DatL.ints_of : ∀ {ns : List Int} {xs : List V}, DatL H (ns.map .int) xs → xs = ns.map .int
  | [], _, h => h.unnil
  | n :: ns, _, h => by
    obtain ⟨y, ys, rfl, r, t⟩ := DatL.uncons h
    rw [r.int_of, DatL.ints_of t]
    rfl
mutual
theorem Dat.rep {K : PySem.W.Frag} : ∀ {d : PyData} {v : V}, Dat H d v → Rep K H d v
  | .none, _, h => by rw [h.none_of]; exact Rep.none
  | .bool b, _, h => by rw [h.bool_of]; exact Rep.bool
  | .int i, _, h => by rw [h.int_of]; exact Rep.int
  | .str x, _, h => by rw [h.str_of]; exact Rep.str
  | .list ds, _, h => by
    obtain ⟨a, xs, rfl, q, r⟩ := h.list_of
    exact Rep.list (SqL.of q) (DatL.rep r)
  | .tuple ds, _, h => by
    obtain ⟨a, xs, rfl, q, r⟩ := h.tuple_of
    exact Rep.tuple (SqT.of q) (DatL.rep r)
  | .dict _, _, h => by unfold Dat at h; exact h.elim
theorem DatL.rep {K : PySem.W.Frag} : ∀ {ds : List PyData} {xs : List V}, DatL H ds xs → RepL K H ds xs
  | [], _, h => by rw [h.unnil]; exact RepL.nil
  | d :: ds, _, h => by
    obtain ⟨y, ys, rfl, r, t⟩ := h.uncons
    exact RepL.cons (Dat.rep r) (DatL.rep t)
end
theorem DatL.snoc {ds : List PyData} {xs : List V} {d : PyData} {x : V} (h : DatL H ds xs) (r : Dat H d x) : DatL H (ds ++ [d]) (xs ++ [x]) := h.append (.cons r .nil)
theorem Dat.ints {a : Addr} {ns : List Int} (h : H a = some (.lst (ns.map .int))) : Dat H (.list (ns.map .int)) (.ref a) := .list h (.ints ns)
theorem Dat.intsT {a : Addr} {ns : List Int} (h : H a = some (.tup (ns.map .int))) : Dat H (.tuple (ns.map .int)) (.ref a) := .tuple h (.ints ns)
theorem Dat.ints_of {v : V} {ns : List Int} (h : Dat H (.list (ns.map .int)) v) : ∃ a, v = .ref a ∧ H a = some (.lst (ns.map .int)) := by
  obtain ⟨a, xs, rfl, q, r⟩ := h.list_of
  rw [r.ints_of] at q
  exact ⟨a, rfl, q⟩
theorem Dat.intsT_of {v : V} {ns : List Int} (h : Dat H (.tuple (ns.map .int)) v) : ∃ a, v = .ref a ∧ H a = some (.tup (ns.map .int)) := by
  obtain ⟨a, xs, rfl, q, r⟩ := h.tuple_of
  rw [r.ints_of] at q
  exact ⟨a, rfl, q⟩
end
def mask (D : Addr) (H : Hp) : Hp := fun b => if b = D then none else H b
section
variable {H H' H'' : Hp} {D p : Addr} {o : HO}
theorem mask_ne (h : p ≠ D) : mask D H p = H p := by unfold mask; rw [if_neg h]
theorem mask_some {u : HO} (h : mask D H p = some u) : p ≠ D ∧ H p = some u := by
  unfold mask at h
  by_cases e : p = D
  · rw [if_pos e] at h; cases h
  · rw [if_neg e] at h; exact ⟨e, h⟩
theorem mask_same : Same (mask D H) H := fun _ _ h => (mask_some h).2
theorem mask_upd : mask D (upd H D o) = mask D H := by
  funext b
  unfold mask
  by_cases e : b = D
  · rw [if_pos e, if_pos e]
  · rw [if_neg e, if_neg e, upd_ne e]
theorem mask_mono (e : Same H H') : Same (mask D H) (mask D H') := fun b u h => by
  obtain ⟨h1, h2⟩ := mask_some h
  rw [mask_ne h1]
  exact e _ _ h2
theorem same_new (h : H p = none) : Same H (upd H p o) := fun b u q => by
  rw [upd_ne fun e => by subst e; rw [h] at q; cases q]
  exact q
theorem Same.put (e : Same H H') (h : H p = none) : Same H (upd H' p o) := fun b u q => by
  rw [upd_ne fun z => by subst z; rw [h] at q; cases q]
  exact e _ _ q
theorem ne_new {u : HO} (h : H p = none) (q : H D = some u) : p ≠ D := fun e => by subst e; rw [h] at q; cases q
end
section
variable {P : Program} {w : World} {K : PySem.W.Frag} {mg : Str → Option Value} {base : Heap}
theorem Fun.okF {x qual : Str} {st : Stmt} {f : Addr} {fd : FuncData} {N ps : List Str} {k : Nat} {sp : Sp} (F : Fun K x qual st f fd) (S : FnScope N ps (defScope st)) (len : ∀ vs H Q E, sp vs H Q E → vs.length = ps.length)
    (hbody : ∀ (cdv : Value) (A : Around) (outer : List Env) (s : Shared) (H : Hp) (vs : List V) (Q : VK) (E : XK), Room k (A.deeper (envOfC qual (defScope st) s.heap.objs.size f cdv)) → sp vs H Q E →
      ∃ t, PSs (cxF P w K mg base N qual (defScope st) f cdv A outer s H E) (defBody st) t ∧ t { nx := fun _ H' => Q .non H', rt := Q } (start N vs) H) : FnOk P w K mg base (CXF P w) (k + 1) f fd ps sp := by
  obtain ⟨oc, od, kV, doc, pm, an, cdv, ct, osl, rfl, lk, hcd⟩ := F.ex
  exact fn_of lk hcd S len fun A outer s H vs Q E hr hsp => hbody cdv A outer s H vs Q E hr hsp
end
theorem lc_in {J : It} {g : TG} {te : TE} {H1 : Hp} {σ0 : St} {QD : Addr → Hp → Prop} (S : St → Prop) (n : Nat) (d : Nat → PyData) (s0 : S σ0) (hgo : ∀ i H2, i < n → Same H1 H2 → J.go i H2) (hstop : ∀ H2, Same H1 H2 → J.stop n H2) (hn : n ≤ sizeLine)
    (step : ∀ D i x σ2 H2 H3 (N : V → St → Hp → Prop), i < n → Same H1 H2 → (∃ ys, H2 D = some (.lst ys)) → S σ2 → J.yld i H2 x H3 → (∀ y σ4 H6, S σ4 → Same H2 H6 → Dat (mask D H6) (d i) y → N y σ4 H6) → g x σ2 H3 fun σ4 H4 => te σ4 H4 fun y H6 => N y σ4 H6)
    (fin : ∀ D ys H2, H1 D = none → Same H1 H2 → H2 D = some (.lst ys) → DatL (mask D H2) ((List.range n).map d) ys → QD D H2) :
    ∀ D, H1 D = none → ∃ W : Nat → Nat → St → Hp → Prop, (∃ m, W 0 m σ0 (upd H1 D (.lst []))) ∧
      ∀ i m σ2 H2, W i m σ2 H2 → (J.stop i H2 ∧ QD D H2) ∨ (J.go i H2 ∧ ∀ x H3, J.yld i H2 x H3 → g x σ2 H3 fun σ4 H4 => tYes σ4 H4 fun b H5 =>
        if b = true then te σ4 H5 fun y H6 => ∃ xs, H6 D = some (.lst xs) ∧ xs.length < sizeLine ∧ ∃ m', m' < m ∧ W (i + 1) m' σ4 (upd H6 D (.lst (xs ++ [y]))) else ∃ m', m' < m ∧ W (i + 1) m' σ4 H5) := by
  intro D hD
  refine ⟨fun i m σ2 H2 => i + m = n ∧ S σ2 ∧ Same H1 H2 ∧ ∃ ys, H2 D = some (.lst ys) ∧ DatL (mask D H2) ((List.range i).map d) ys, ⟨n, by omega, s0, same_new hD, [], upd_same, .nil⟩, ?_⟩
  intro i m σ2 H2 ⟨hi, hs, e, ys, hy, dl⟩
  by_cases c : i < n
  · refine .inr ⟨hgo i H2 c e, fun x H3 yl => ?_⟩
    refine step D i x σ2 H2 H3 (fun y σ4 H6 => ∃ xs, H6 D = some (.lst xs) ∧ xs.length < sizeLine ∧ ∃ m', m' < m ∧ _) c e ⟨ys, hy⟩ hs yl fun y σ4 H6 s4 e6 dy => ?_
    have hl := dl.length
    rw [List.length_map, List.length_range] at hl
    refine ⟨ys, e6 _ _ hy, by omega, m - 1, by omega, by omega, s4, (e.trans e6).put hD, ys ++ [y], upd_same, ?_⟩
    rw [mask_upd, List.range_succ, List.map_append]
    exact (dl.mono (mask_mono e6)).snoc dy
  · have hin : i = n := by omega
    subst hin
    exact .inl ⟨hstop H2 e, fin D ys H2 hD e hy dl⟩
theorem for_in {J : It} {g : TG} {tb : TS} {D : Ends} {H1 : Hp} {σ0 : St} (n : Nat) (I : Nat → St → Hp → Prop) (i0 : I 0 σ0 H1) (hgo : ∀ i σ H, i < n → I i σ H → J.go i H) (hstop : ∀ σ H, I n σ H → J.stop n H)
    (step : ∀ i x σ2 H2 H3, i < n → I i σ2 H2 → J.yld i H2 x H3 → g x σ2 H3 fun σ4 H4 => tb { D with nx := I (i + 1), ct := I (i + 1), bk := D.nx } σ4 H4) (fin : ∀ σ H, I n σ H → D.nx σ H) :
    ∃ W : Nat → Nat → St → Hp → Prop, (∃ m, W 0 m σ0 H1) ∧ ∀ i m σ H, W i m σ H →
      (J.stop i H ∧ D.nx σ H) ∨ (J.go i H ∧ ∃ N : St → Hp → Prop, (∀ σ' H', N σ' H' → ∃ m', m' < m ∧ W (i + 1) m' σ' H') ∧ ∀ x H', J.yld i H x H' → g x σ H' fun σ2 H2 => tb { D with nx := N, ct := N, bk := D.nx } σ2 H2) := by
  refine ⟨fun i m σ H => i + m = n ∧ I i σ H, ⟨n, by omega, i0⟩, fun i m σ H ⟨hi, hI⟩ => ?_⟩
  by_cases c : i < n
  · refine .inr ⟨hgo i σ H c hI, I (i + 1), fun σ' H' q => ⟨m - 1, by omega, by omega, q⟩, fun x H' yl => step i x σ H H' c hI yl⟩
  · have hin : i = n := by omega
    subst hin
    exact .inl ⟨hstop σ H hI, fin σ H hI⟩
end L2
set_option Elab.async false
set_option linter.all false
set_option maxRecDepth 100000
set_option maxHeartbeats 4000000
namespace L2
open PySem PySem.Spec PyProof.Rows
theorem bt_bool : bootBuiltins ("bool" : Str) = some (Value.type "bool") := by rfl
theorem bt_int : bootBuiltins ("int" : Str) = some (Value.type "int") := by rfl
theorem bt_list : bootBuiltins ("list" : Str) = some (Value.type "list") := by rfl
theorem bt_tuple : bootBuiltins ("tuple" : Str) = some (Value.type "tuple") := by rfl
theorem bt_str : bootBuiltins ("str" : Str) = some (Value.type "str") := by rfl
theorem bt_ValueError : bootBuiltins ("ValueError" : Str) = some (Value.type "ValueError") := by rfl
theorem bt_isinstance : bootBuiltins ("isinstance" : Str) = some (Value.builtin "isinstance") := by rfl
theorem lookup_mem {α : Type} {x : Str} {a : α} : ∀ {l : List (Str × α)}, l.lookup x = some a → (x, a) ∈ l := fun h => PySem.mem_of_lookup h
theorem cn_of {X : Cx} {N : List Str} {js : List (Option Nat)} {scope : Scope} {cl : List (Str × Addr)} (hk : scope.kind = .function) (hc : closureFor scope X.env = pure cl) (h1 : ∀ y ∈ scope.names, y.2 ≠ .cell) (h2 : ∀ y ∈ scope.names, y.2 = .local → scope.names.lookup y.1 = some .local)
    (hl : js.length = N.length) (hs : ∀ y ∈ cl, X.env.cells.lookup y.1 = some y.2) (hf : ∀ y ∈ scope.names, y.2 = .free → (cl.lookup y.1).isSome = true)
    (hj : ∀ p ∈ N.zip js, ∀ j, p.2 = some j → X.N[j]? = some p.1 ∧ X.env.kindOf p.1 = some .cell ∧ scope.names.lookup p.1 = some .free)
    (hfn : X.env.scope.kind = .function) : CompNames X N js scope cl := by
  have rl : ∀ x k, (relabel scope X.env).names.lookup x = some k → (k = .cell ∨ k = .free) → ∃ y ∈ scope.names, y.1 = x ∧ y.2 = .free := fun x k q hk2 => by
    have m := lookup_mem q
    unfold relabel at m
    obtain ⟨⟨n, k2⟩, hm, e⟩ := List.mem_map.mp m
    have e2 := h1 _ hm
    replace e : (if (k2 == NameKind.free && X.env.scope.kind == ScopeKind.function && X.env.kindOf n == some NameKind.cell) = true then (n, NameKind.cell) else (n, k2)) = (x, k) := e
    by_cases hf2 : k2 = .free
    · subst hf2
      refine ⟨_, hm, ?_, rfl⟩
      split at e
      · exact congrArg Prod.fst e
      · exact congrArg Prod.fst e
    · exfalso
      have hfb : (k2 == NameKind.free) = false := by cases k2 <;> first | rfl | exact absurd rfl hf2
      rw [hfb, Bool.false_and, Bool.false_and, if_neg Bool.false_ne_true] at e
      cases e
      rcases hk2 with h | h
      · exact e2 h
      · exact hf2 h
  refine ⟨hk, hc, h1, h2, fun x c h => hs _ (lookup_mem h), fun x h => ?_, hl, fun i j x h hx => ?_⟩
  · have : ∃ y ∈ scope.names, y.1 = x ∧ y.2 = .free := by
      rcases h with h | h
      · exact rl x _ h (.inl rfl)
      · exact rl x _ h (.inr rfl)
    obtain ⟨y, hy, rfl, e⟩ := this
    exact Option.isSome_iff_exists.mp (hf y hy e)
  · obtain ⟨hi, rfl⟩ := List.getElem?_eq_some_iff.mp hx
    obtain ⟨hi2, hj2⟩ := List.getElem?_eq_some_iff.mp h
    obtain ⟨a, b, c⟩ := hj (N[i], js[i]) (by rw [← List.getElem_zip (l := N) (l' := js) (h := by rw [List.length_zip]; omega)]; exact List.getElem_mem _) j hj2
    refine ⟨a, ?_, .inl b⟩
    show (relabel scope X.env).names.lookup N[i] = some .cell ∨ (relabel scope X.env).names.lookup N[i] = some .free
    left
    have hb : X.env.scope.names.lookup N[i] = some .cell := b
    have gen : ∀ l : List (Str × NameKind), l.lookup N[i] = some .free → (l.map (fun x => match x with | (n, k) => if (k == NameKind.free && X.env.scope.kind == ScopeKind.function && X.env.kindOf n == some NameKind.cell) = true then (n, NameKind.cell) else (n, k))).lookup N[i] = some .cell := by
      intro l
      induction l with
      | nil => intro h; cases h
      | cons p r ih =>
        intro h
        obtain ⟨n, k⟩ := p
        rw [List.lookup_cons] at h
        rw [List.map_cons]
        by_cases e : (N[i] == n) = true
        · rw [e] at h
          cases h
          have en : N[i] = n := beq_iff_eq.mp e
          have hb2 : X.env.kindOf n = some NameKind.cell := by rw [← en]; exact b
          show List.lookup N[i] ((if (NameKind.free == NameKind.free && X.env.scope.kind == ScopeKind.function && X.env.kindOf n == some NameKind.cell) = true then (n, NameKind.cell) else (n, NameKind.free)) :: _) = _
          rw [hb2, hfn, if_pos (by decide), List.lookup_cons, e]
        · rw [Bool.not_eq_true] at e
          rw [e] at h
          have := ih h
          show List.lookup N[i] ((if (k == NameKind.free && X.env.scope.kind == ScopeKind.function && X.env.kindOf n == some NameKind.cell) = true then (n, NameKind.cell) else (n, k)) :: _) = _
          split
          · rw [List.lookup_cons, e]; exact this
          · rw [List.lookup_cons, e]; exact this
    exact gen _ c
theorem cn_none {X : Cx} {N : List Str} {js : List (Option Nat)} {scope : Scope} (hk : scope.kind = .function) (hc : closureFor scope X.env = pure []) (h1 : ∀ y ∈ scope.names, y.2 ≠ .cell) (h2 : ∀ y ∈ scope.names, y.2 = .local → scope.names.lookup y.1 = some .local)
    (h3 : ∀ y ∈ scope.names, y.2 ≠ .free) (hl : js.length = N.length) (hj : ∀ o ∈ js, o = none) (hfn : X.env.scope.kind = .function) : CompNames X N js scope [] :=
  cn_of hk hc h1 h2 hl (fun y hy => absurd hy (by simp)) (fun y hy e => absurd e (h3 y hy)) (fun p hp j h => by cases (hj _ (List.of_mem_zip hp).2).symm.trans h) hfn
section
variable {X : Cx} {K : PySem.W.Frag}
theorem pg_tupK {es : List Expr} {k : Nat} {t : TGs} {n : Nat} {pos : Pos} (h : X.K = K) (hc : X.calm = true) (hp : PGs X es t) (hn : (assignEach es X.env).length = n) (hst : (assignEach es X.env).findIdx? (·.1) = none) : PG X (.Tuple es k pos) (gTup K n t) := by
  subst h
  exact pg_tup hc hp hn hst
variable {o e : Expr} {es : List Expr} {to : TE} {t : TA} {name : Str} {apos cpos : Pos} {T id : String} {r : V → List V → Hp → VK → Prop}
end
end L2
set_option Elab.async false
set_option linter.all false
set_option maxRecDepth 100000
set_option maxHeartbeats 4000000
namespace My
open PySem L2 PySem.Spec PyProof.Rows
structure Er where
  LayError : Addr
  BadWeb : Addr
  BadOrder : Addr
  BadSpot : Addr
  BadKind : Addr
  BadText : Addr
variable {A : Er}
def tieD (t : List Int) : PyData := .tuple (t.map .int)
def webD (n : Int) (ts : List (List Int)) : PyData := .tuple [.int n, .list (ts.map tieD)]
def small (k : Int) : Prop := k.natAbs < 10 ^ 20
structure WebIn (n : Int) (ts : List (List Int)) : Prop where
  n : small n
  len : ts.length ≤ 1000
  tie : ∀ t ∈ ts, t.length ≤ 100 ∧ ∀ k ∈ t, small k
structure OrdIn (ns : List Int) : Prop where
  len : ns.length ≤ 1000
  one : ∀ k ∈ ns, small k
theorem web_of {H : Hp} {n : Int} {ts : List (List Int)} {v : V} (h : Dat H (webD n ts) v) : ∃ a l xs, v = .ref a ∧ H a = some (.tup [.int n, .ref l]) ∧ H l = some (.lst xs) ∧ DatL H (ts.map tieD) xs := by
  obtain ⟨a, xs, rfl, q, r⟩ := h.tuple_of
  obtain ⟨y, ys, rfl, r1, t1⟩ := r.uncons
  obtain ⟨z, zs, rfl, r2, t2⟩ := t1.uncons
  obtain ⟨l, xs, rfl, q2, r3⟩ := r2.list_of
  rw [r1.int_of, t2.unnil] at q
  exact ⟨a, l, xs, rfl, q, q2, r3⟩
theorem web_mk {H : Hp} {n : Int} {ts : List (List Int)} {a l : Addr} {xs : List V} (h1 : H a = some (.tup [.int n, .ref l])) (h2 : H l = some (.lst xs)) (h3 : DatL H (ts.map tieD) xs) : Dat H (webD n ts) (.ref a) :=
  .tuple h1 (.cons .int (.cons (.list h2 h3) .nil))
theorem tie_at {H : Hp} {ts : List (List Int)} {xs : List V} {i : Nat} {t : List Int} (h : DatL H (ts.map tieD) xs) (e : ts[i]? = some t) : ∃ a, xs[i]? = some (.ref a) ∧ H a = some (.tup (t.map .int)) := by
  obtain ⟨x, h1, h2⟩ := h.get (i := i) (d := tieD t) (by rw [List.getElem?_map, e]; rfl)
  obtain ⟨a, rfl, q⟩ := Dat.intsT_of h2
  exact ⟨a, h1, q⟩
def spWithin : Sp := fun vs H Q _ => ∃ v a b : Int, vs = [.int v, .int a, .int b] ∧ Q (.bl (decide (a ≤ v) && decide (v ≤ b))) H
def tieOk (n : Int) : List Int → Bool
  | [a, b, c] => (decide (0 ≤ b) && decide (b ≤ n - 1)) && ((decide (0 ≤ a) && decide (a ≤ b - 1)) && (decide (1 ≤ c) && decide (c ≤ 100)))
  | _ => false
theorem tieOk_eq (n a b c : Int) : tieOk n [a, b, c] = ((decide (0 ≤ b) && decide (b ≤ n - 1)) && ((decide (0 ≤ a) && decide (a ≤ b - 1)) && (decide (1 ≤ c) && decide (c ≤ 100)))) := rfl
theorem tieOk_three {n : Int} {t : List Int} (h : tieOk n t = true) : ∃ a b c, t = [a, b, c] ∧ 0 ≤ b ∧ b ≤ n - 1 ∧ 0 ≤ a ∧ a ≤ b - 1 ∧ 1 ≤ c ∧ c ≤ 100 := by
  unfold tieOk at h
  split at h
  · rename_i a b c
    simp only [Bool.and_eq_true, decide_eq_true_eq] at h
    obtain ⟨⟨h1, h2⟩, ⟨h3, h4⟩, h5, h6⟩ := h
    exact ⟨a, b, c, rfl, h1, h2, h3, h4, h5, h6⟩
  · cases h
def spTie : Sp := fun vs H Q _ => ∃ (a : Addr) (t : List Int) (n : Int), vs = [.ref a, .int n] ∧ H a = some (.tup (t.map .int)) ∧ Q (.bl (tieOk n t)) H
def tiesOk (n : Int) : List Int → List (List Int) → Bool
  | _, [] => true
  | b, t :: r => tieOk n t && (!HT.lexLe (t.take 2) b && tiesOk n (t.take 2) r)
def spTies (A : Er) : Sp := fun vs H Q E => ∃ (n : Int) (l : Addr) (xs : List V) (ts : List (List Int)), vs = [.int n, .ref l] ∧ H l = some (.lst xs) ∧ DatL H (ts.map tieD) xs ∧ WebIn n ts ∧
  (tiesOk n [-1, -1] ts = true → ∀ H', Same H H' → Q .non H') ∧ (tiesOk n [-1, -1] ts = false → ∀ H', Same H H' → E (.ref A.BadWeb) none H')
def webOk (n : Int) (ts : List (List Int)) : Bool := (decide (0 ≤ n) && decide (n ≤ 8)) && tiesOk n [-1, -1] ts
def spWeb (A : Er) : Sp := fun vs H Q E => ∃ (v : V) (n : Int) (ts : List (List Int)), vs = [v] ∧ Dat H (webD n ts) v ∧ WebIn n ts ∧
  (webOk n ts = true → ∀ H', Same H H' → Q .non H') ∧ (webOk n ts = false → ∀ H', Same H H' → E (.ref A.BadWeb) none H')
def ordOk (n : Int) (ns : List Int) : Bool := decide ((ns.length : Int) = n) && (ns.all (fun k => decide (0 ≤ k) && decide (k ≤ n - 1)) && decide ns.Nodup)
theorem tiesOk_all {n : Int} : ∀ {ts : List (List Int)} {b : List Int}, tiesOk n b ts = true → ∀ t ∈ ts, tieOk n t = true
  | [], _, _, t, ht => by simp at ht
  | a :: r, b, h, t, ht => by
    unfold tiesOk at h
    rw [Bool.and_eq_true, Bool.and_eq_true] at h
    rcases List.mem_cons.mp ht with rfl | ht
    · exact h.1
    · exact tiesOk_all h.2.2 t ht
theorem webOk_of {n : Int} {ts : List (List Int)} (h : webOk n ts = true) : 0 ≤ n ∧ n ≤ 8 ∧ ∀ t ∈ ts, ∃ a b c, t = [a, b, c] ∧ 0 ≤ b ∧ b ≤ n - 1 ∧ 0 ≤ a ∧ a ≤ b - 1 ∧ 1 ≤ c ∧ c ≤ 100 := by
  unfold webOk at h
  rw [Bool.and_eq_true, Bool.and_eq_true] at h
  exact ⟨of_decide_eq_true h.1.1, of_decide_eq_true h.1.2, fun t ht => tieOk_three (tiesOk_all h.2 t ht)⟩
theorem map_range_get {α β : Type} (f : α → β) (z : α) : ∀ ts : List α, (List.range ts.length).map (fun i => f (ts.getD i z)) = ts.map f := by
  intro ts
  apply List.ext_getElem
  · simp
  · intro i h1 h2
    have h3 : i < ts.length := by simpa using h2
    simp [List.getD_eq_getElem?_getD, List.getElem?_eq_getElem h3]
structure Both (A : Er) (H : Hp) (v : V) (l : Addr) (n : Int) (ts : List (List Int)) (ns : List Int) (E : XK) : Prop where
  web : Dat H (webD n ts) v
  ord : H l = some (.lst (ns.map .int))
  win : WebIn n ts
  oin : OrdIn ns
  ew : webOk n ts = false → ∀ H', Same H H' → E (.ref A.BadWeb) none H'
  eo : webOk n ts = true → ordOk n ns = false → ∀ H', Same H H' → E (.ref A.BadOrder) none H'
theorem Both.later {H H1 : Hp} {v : V} {l : Addr} {n : Int} {ts : List (List Int)} {ns : List Int} {E : XK} (b : Both A H v l n ts ns E) (e : Same H H1) : Both A H1 v l n ts ns E :=
  ⟨b.web.mono e, e _ _ b.ord, b.win, b.oin, fun h H' e' => b.ew h H' (e.trans e'), fun h1 h2 H' e' => b.eo h1 h2 H' (e.trans e')⟩
def spWhole : Sp := fun vs H Q _ => ∃ x, vs = [x] ∧ ((∃ i, x = .int i ∧ Q (.bl true) H) ∨ ∃ a xs, x = .ref a ∧ H a = some (.tup xs) ∧ Q (.bl false) H)
def isKind (kd : Str) : Prop := kd = "longest" ∨ kd = "most" ∨ kd = "total"
instance {kd : Str} : Decidable (isKind kd) := by unfold isKind; infer_instance
def cellI (ns : List Int) (k : Int) : Int := if ns = [] then 0 else ns.getD (k % (ns.length : Int)).toNat 0
def mixI (ns : List Int) (k : Int) : Int := (((cellI ns k + 104729 * (k + 1)) % 4294967291 * 48271 % 4294967279) / 64 * 69621 + (cellI ns k + 104729 * (k + 1)) % 4294967291 * 48271 % 4294967279) % 4294967231
theorem mixI_nonneg (ns : List Int) (k : Int) : 0 ≤ mixI ns k := Int.emod_nonneg _ (by decide)
theorem cell_at {ns : List Int} (h : ns ≠ []) (i : Int) : atI (ns.map V.int) (i % ((ns.map V.int).length : Int)) = some (.int (cellI ns i)) := by
  rw [List.length_map]
  have hl : 0 < ns.length := List.length_pos_iff.mpr h
  have h0 : 0 ≤ i % (ns.length : Int) := Int.emod_nonneg _ (by omega)
  have h1 : i % (ns.length : Int) < ns.length := Int.emod_lt_of_pos _ (by omega)
  have e : i % (ns.length : Int) = (((i % (ns.length : Int)).toNat : Nat) : Int) := by omega
  unfold cellI
  rw [if_neg h]
  have hj : (i % (ns.length : Int)).toNat < ns.length := by omega
  generalize (i % (ns.length : Int)).toNat = j at e hj ⊢
  rw [e]
  apply atI_nat
  rw [List.getElem?_map, List.getD_eq_getElem?_getD, List.getElem?_eq_getElem hj]
  rfl
def spCell (K : PySem.W.Frag) : Sp := fun vs H Q _ => ∃ (a : Addr) (ns : List Int) (k : Int), vs = [.ref a, .int k] ∧ SqL K H a (ns.map .int) ∧ Q (.int (cellI ns k)) H
def spMix (K : PySem.W.Frag) : Sp := fun vs H Q _ => ∃ (a : Addr) (ns : List Int) (k : Int), vs = [.ref a, .int k] ∧ SqL K H a (ns.map .int) ∧ Q (.int (mixI ns k)) H
theorem tiesOk_snoc {n : Int} {t : List Int} (h1 : tieOk n t = true) : ∀ {ts : List (List Int)} {b : List Int}, tiesOk n b ts = true → HT.lexLe (t.take 2) b = false → (∀ s ∈ ts, HT.lexLe (t.take 2) (s.take 2) = false) → tiesOk n b (ts ++ [t]) = true
  | [], b, _, h2, _ => by
    show tiesOk n b [t] = true
    unfold tiesOk
    rw [h1, h2]
    rfl
  | s :: r, b, h, h2, h3 => by
    unfold tiesOk at h
    rw [Bool.and_eq_true, Bool.and_eq_true] at h
    rw [List.cons_append]
    unfold tiesOk
    rw [h.1, h.2.1, tiesOk_snoc h1 h.2.2 (h3 s List.mem_cons_self) fun x hx => h3 x (List.mem_cons_of_mem _ hx)]
    rfl
theorem lexLe2 {a b c d : Int} : HT.lexLe [a, b] [c, d] = decide (a < c ∨ a = c ∧ b ≤ d) := by
  rw [HT.lexLe_cons, HT.lexLe_cons]
  by_cases e : a = c
  · rw [if_pos e]
    by_cases e2 : b = d
    · rw [if_pos e2, HT.lexLe_nil_nil]; exact (decide_eq_true (by omega)).symm
    · rw [if_neg e2]; exact decide_eq_decide.mpr (by omega)
  · rw [if_neg e]; exact decide_eq_decide.mpr (by omega)
structure TW (n i j : Int) (ts : List (List Int)) : Prop where
  ok : tiesOk n [-1, -1] ts = true
  lt : ∀ s ∈ ts, ∃ a b c, s = [a, b, c] ∧ (a < i ∨ a = i ∧ b < j)
theorem TW.later {n i j i' j' : Int} {ts : List (List Int)} (h : TW n i j ts) (e : i < i' ∨ i = i' ∧ j ≤ j') : TW n i' j' ts :=
  ⟨h.ok, fun s hs => by
    obtain ⟨a, b, c, h1, h2⟩ := h.lt s hs
    exact ⟨a, b, c, h1, by omega⟩⟩
theorem TW.add {n i j w : Int} {ts : List (List Int)} (h : TW n i j ts) (h0 : 0 ≤ i) (h1 : i < j) (h2 : j < n) (h3 : 1 ≤ w) (h4 : w ≤ 100) : TW n i (j + 1) (ts ++ [[i, j, w]]) := by
  refine ⟨tiesOk_snoc ?_ h.ok ?_ fun s hs => ?_, fun s hs => ?_⟩
  · rw [tieOk_eq]
    simp only [Bool.and_eq_true, decide_eq_true_eq]
    omega
  · show HT.lexLe [i, j] [-1, -1] = false
    rw [lexLe2]
    exact decide_eq_false (by omega)
  · obtain ⟨a, b, c, rfl, e⟩ := h.lt s hs
    show HT.lexLe [i, j] [a, b] = false
    rw [lexLe2]
    exact decide_eq_false (by omega)
  · rcases List.mem_append.mp hs with z | z
    · obtain ⟨a, b, c, e1, e2⟩ := h.lt s z
      exact ⟨a, b, c, e1, by omega⟩
    · exact ⟨i, j, w, by simpa using z, by omega⟩
theorem TW.nil {n : Int} : TW n 0 0 [] := ⟨rfl, fun s hs => by simp at hs⟩
theorem weights_at {i : Int} (h0 : 0 ≤ i) (h1 : i < 6) : ∃ w : Int, atI [V.int 1, V.int 1, V.int 2, V.int 3, V.int 7, V.int 100] i = some (.int w) ∧ 1 ≤ w ∧ w ≤ 100 := by
  have : i = 0 ∨ i = 1 ∨ i = 2 ∨ i = 3 ∨ i = 4 ∨ i = 5 := by omega
  rcases this with rfl | rfl | rfl | rfl | rfl | rfl
  · exact ⟨1, rfl, by decide, by decide⟩
  · exact ⟨1, rfl, by decide, by decide⟩
  · exact ⟨2, rfl, by decide, by decide⟩
  · exact ⟨3, rfl, by decide, by decide⟩
  · exact ⟨7, rfl, by decide, by decide⟩
  · exact ⟨100, rfl, by decide, by decide⟩
theorem webIn_of {n : Int} {ts : List (List Int)} (h : webOk n ts = true) (hl : ts.length ≤ 1000) : WebIn n ts := by
  obtain ⟨h0, h8, ht⟩ := webOk_of h
  refine ⟨by unfold small; omega, hl, fun t hm => ?_⟩
  obtain ⟨a, b, c, rfl, _⟩ := ht t hm
  refine ⟨by show 3 ≤ 100; decide, fun k hk => ?_⟩
  unfold small
  simp only [List.mem_cons, List.not_mem_nil, or_false] at hk
  rcases hk with rfl | rfl | rfl <;> omega
def spLWeb (K : PySem.W.Frag) : Sp := fun vs H Q _ => ∃ (a : Addr) (ns : List Int) (k m : Int), vs = [.ref a, .int k, .int m] ∧ SqL K H a (ns.map .int) ∧ 0 ≤ m ∧ m ≤ 8 ∧
  ∀ v H' n ts, Same H H' → Dat H' (webD n ts) v → webOk n ts = true → WebIn n ts → n ≤ m → ts.length ≤ 64 → Q v H'
def refWord (A : Er) (C : Addr) (x : Str) : Prop := (C = A.BadKind ∧ x = "kind") ∨ (C = A.BadOrder ∧ x = "order") ∨ (C = A.BadSpot ∧ x = "spot") ∨ (C = A.BadText ∧ x = "text") ∨ (C = A.BadWeb ∧ x = "web")
def spRef (A : Er) : Sp := fun vs H Q _ => ∃ x, vs = [x] ∧ ((x = .non ∧ Q (.str "ok") H) ∨ ∃ a C y, x = .ref a ∧ H a = some (excO a C) ∧ refWord A C y ∧ ∀ H', Same H H' → Q (.str y) H')
theorem iteDT {c X Y : Prop} [Decidable c] (hc : c) (h : X) : if decide c = true then X else Y := by rw [decide_eq_true hc]; exact iteT h
theorem iteDF {c X Y : Prop} [Decidable c] (hc : ¬ c) (h : Y) : if decide c = true then X else Y := by rw [decide_eq_false hc]; exact iteF h
theorem refWord.web {A : Er} : refWord A A.BadWeb "web" := .inr (.inr (.inr (.inr ⟨rfl, rfl⟩)))
theorem refWord.order {A : Er} : refWord A A.BadOrder "order" := .inr (.inl ⟨rfl, rfl⟩)
theorem refWord.kind {A : Er} : refWord A A.BadKind "kind" := .inl ⟨rfl, rfl⟩
theorem refWord.spot {A : Er} : refWord A A.BadSpot "spot" := .inr (.inr (.inl ⟨rfl, rfl⟩))
theorem refWord.text {A : Er} : refWord A A.BadText "text" := .inr (.inr (.inr (.inl ⟨rfl, rfl⟩)))
theorem cut_drop {xs : List V} {k : Nat} : cutV xs (some (k : Int)) none = xs.drop k := by
  unfold cutV
  rw [HT.sIx_none, HT.sIx_nat]
  rw [List.take_of_length_le (by rw [List.length_drop]; omega)]
  by_cases c : k ≤ xs.length
  · rw [Nat.min_eq_left c]
  · rw [Nat.min_eq_right (by omega), List.drop_length, List.drop_of_length_le (by omega)]
theorem lay_ints (ns : List Int) : PyData.canLayAll0 (ns.map .int) = true := by
  induction ns with
  | nil => rfl
  | cons a r ih => show (PyData.canLay0 (.int a) && PyData.canLayAll0 (r.map .int)) = true; rw [ih]; rfl
theorem depth_ints (ns : List Int) : PyData.depthAll (ns.map .int) = 0 := by
  induction ns with
  | nil => rfl
  | cons a r ih => show max (PyData.depth (.int a)) (PyData.depthAll (r.map .int)) = 0; rw [ih]; rfl
theorem lay_ties (ts : List (List Int)) : PyData.canLayAll0 (ts.map tieD) = true := by
  induction ts with
  | nil => rfl
  | cons a r ih => show (PyData.canLayAll0 (a.map .int) && PyData.canLayAll0 (r.map tieD)) = true; rw [ih, lay_ints]; rfl
theorem depth_ties (ts : List (List Int)) : PyData.depthAll (ts.map tieD) ≤ 1 := by
  induction ts with
  | nil => exact Nat.zero_le _
  | cons a r ih => show max (PyData.depthAll (a.map .int) + 1) (PyData.depthAll (r.map tieD)) ≤ 1; rw [depth_ints]; omega
theorem lay_web (n : Int) (ts : List (List Int)) : (webD n ts).canLay0 = true := by
  show (PyData.canLay0 (.int n) && (PyData.canLayAll0 (ts.map tieD) && true)) = true
  rw [lay_ties]; rfl
theorem depth_web (n : Int) (ts : List (List Int)) : (webD n ts).depth ≤ 3 := by
  show max (PyData.depth (.int n)) (max (PyData.depthAll (ts.map tieD) + 1) 0) + 1 ≤ 3
  have := depth_ties ts
  show max 0 (max (PyData.depthAll (ts.map tieD) + 1) 0) + 1 ≤ 3
  omega
theorem ite_ne_same {d : PyData} {X Y : Prop} (hc : d.canLay0 = true) (h : Y) : if (if true = true then !PyData.eqv d d else PyData.eqv d d) = true then X else Y := by
  rw [if_pos (rfl : true = true), SeqAt.eqv_refl d hc]; exact iteF h
theorem eq_same {d : PyData} (hc : d.canLay0 = true) : (if false = true then !PyData.eqv d d else PyData.eqv d d) = true := by
  rw [if_neg Bool.false_ne_true, SeqAt.eqv_refl d hc]
theorem new_pair {H : Hp} {p : Addr} {o : HO} (h : H p = none) : Same H (upd H p o) ∧ upd H p o p = some o := ⟨same_new h, upd_same⟩
end My
set_option Elab.async false
set_option linter.all false
set_option maxRecDepth 100000
set_option maxHeartbeats 4000000
namespace PySem.F
end PySem.F
namespace L2
open PySem PySem.Spec PyProof.Rows
section
variable {prog : Program} {w : World} {A : Around} {E : Value → Shared → Prop} {s : Shared}
end
section
variable {X : Cx}
end
end L2
set_option Elab.async false
set_option linter.all false
set_option maxRecDepth 100000
set_option maxHeartbeats 4000000
namespace L2
open PySem PySem.Spec PyProof.Rows
section
variable {X : Cx}
theorem vals_bl : ∀ {bs : List Bool} {us : List Value}, Vals (bs.map V.bl) us → us = bs.map .bool
  | [], _, .nil => rfl
  | b :: bs, _, .cons r t => by
    have := vals_bl t
    subst this
    cases r
    rfl
theorem all_range (bs : List Bool) : ((List.range bs.length).all fun i => (bs[i]?).getD true) = bs.all id := by
  rw [Bool.eq_iff_iff, List.all_eq_true, List.all_eq_true]
  constructor
  · intro h b hb
    obtain ⟨i, hi, rfl⟩ := List.getElem_of_mem hb
    have := h i (List.mem_range.mpr hi)
    rw [List.getElem?_eq_getElem hi] at this
    exact this
  · intro h i hi
    have hi' := List.mem_range.mp hi
    rw [List.getElem?_eq_getElem hi']
    exact h _ (List.getElem_mem hi')
theorem call_allB (hc : X.calm = true) : CallR X (.builtin "all") (fun xs H Q => ∃ (p : Addr) (bs : List Bool), xs = [.ref p] ∧ SqL X.K H p (bs.map .bl) ∧ Q (.bl (bs.all id)) H) := by
  intro pins s σ H xs us Q I r h
  obtain ⟨p, bs, rfl, hq, q⟩ := h
  obtain ⟨u, rfl, ru⟩ := vals1 r
  cases ru
  obtain ⟨its, rv, pl, hz⟩ := I.list hq
  have hits := vals_bl rv
  subst hits
  have hl := pl.isList
  have hlt : p < s.heap.objs.size := by obtain ⟨_, e, _⟩ := hl; exact Heap.lt_size e
  have kept : ∀ {h' : Heap} {o : Obj}, (∀ b x, b ∉ [s.heap.objs.size] → (s.heap.push o).get? b = some x → h'.get? b = some x) → ∀ b x, s.heap.get? b = some x → h'.get? b = some x :=
    fun hk b x e => hk b x (fun hm => by rw [List.mem_singleton.mp hm] at e; exact Nat.lt_irrefl _ (Heap.lt_size e)) (Heap.get?_push_of_some _ e)
  refine call_all_walk (wpAny_pyIter_list hl ?_)
  refine ⟨s.heap.objs.size, [s.heap.objs.size, p], [s.heap.objs.size], (bs.map Value.bool).toArray.size, _, _, fun i => (bs[i]?).getD true, rfl, Walks.list (A := X.A.in1) (I.ok.hd hc) _ p (Nat.ne_of_lt hlt) (bs.map Value.bool).toArray,
    ⟨⟨_, Heap.get?_push_size _ rfl, rfl, rfl⟩, hl.push _⟩, fun i v s' Q' E' hP hQ => ?_, fun h' tk hk => ?_⟩
  · have hP' : (bs.map Value.bool)[i]? = some v := by simpa using hP
    rw [List.getElem?_map] at hP'
    cases e : bs[i]? with
    | none => rw [e] at hP'; cases hP'
    | some b =>
      rw [e] at hP'
      cases hP'
      have hQ' : Q' ((bs[i]?).getD true) s' := hQ
      rw [e] at hQ'
      exact wpAny_truthy_bool hQ'
  · have e : ((List.range (bs.map Value.bool).toArray.size).all fun i => (bs[i]?).getD true) = bs.all id := by
      rw [List.size_toArray, List.length_map]; exact all_range bs
    rw [e]
    exact ⟨.bl (bs.all id), H, I.kept (kept hk), rfl, q⟩
end
section
variable {X : Cx} {a b : Expr} {rest : List Expr} {ta tb : TE} {pos : Pos}
end
section
variable {X : Cx} {K : PySem.W.Frag}
end
end L2
set_option Elab.async false
set_option linter.all false
set_option maxRecDepth 100000
set_option maxHeartbeats 4000000
namespace L2
open PySem PySem.Spec PyProof.Rows
section
variable {X : Cx}
def rStarts : V → List V → Hp → VK → Prop := fun x vs H Q => ∃ a b : Str, x = .str a ∧ vs = [.str b] ∧ Q (.bl (Txt.startswith a b)) H
theorem mt_starts : MtR X "str.startswith" rStarts := by
  intro pins s σ H x vs v us Q I rx rv h
  obtain ⟨a, b, rfl, rfl, q⟩ := h
  obtain ⟨t, rfl⟩ := rx
  obtain ⟨u, rfl, ru⟩ := vals1 rv
  obtain ⟨t2, rfl⟩ := ru
  exact SC.startswith ⟨.bl _, H, I, rfl, q⟩
theorem vals_strs : ∀ l : List (Str × Tok), Vals (l.map fun p => V.str p.1) (strValues l)
  | [] => .nil
  | p :: r => .cons ⟨p.2, rfl⟩ (vals_strs r)
def rSplit : V → List V → Hp → VK → Prop := fun x vs H Q => ∃ a b : Str, x = .str a ∧ vs = [.str b] ∧ (b.length == 0) = false ∧ a.length + 2 ≤ sizeLine ∧ ∀ l, H l = none → Q (.ref l) (upd H l (.lst ((Txt.split a b).map .str)))
theorem split_len (a b : Str) (h : a.length + 2 ≤ sizeLine) : (Txt.split a b).length ≤ sizeLine := by
  have e1 := StrLaws.occ_length_le a b 0 a.length (a.length + 1)
  unfold Txt.split
  split
  · show 1 ≤ _; omega
  · split
    · show 1 ≤ _; omega
    · rw [length_partsBetween]; omega
theorem mt_split : MtR X "str.split" rSplit := by
  intro pins s σ H x vs v us Q I rx rv h
  obtain ⟨a, b, rfl, rfl, hb, hz, q⟩ := h
  obtain ⟨t, rfl⟩ := rx
  obtain ⟨u, rfl, ru⟩ := vals1 rv
  obtain ⟨t2, rfl⟩ := ru
  have fin : ∀ (l : List (Str × Tok)) (k : Nat), l.map (·.1) = Txt.split a b → EP X pins σ Q (.ref s.heap.objs.size) { s with heap := s.heap.push { cls := .type "list", data := .seq (strValues l).toArray }, toks := k } := fun l k e => by
    have hv := vals_strs l
    have z : (l.map fun p => V.str p.1) = (Txt.split a b).map V.str := by rw [← e, List.map_map]; rfl
    rw [z] at hv
    exact ⟨.ref _, _, I.lnew (t' := k) hv (by rw [List.length_map]; exact split_len a b hz), rfl, q _ I.fresh⟩
  have hn : (Builtin.Str.partsBetween a (Builtin.Str.occurrences a b 0 a.length (a.length + 1)) b.length).length ≤ sizeLine := by
    have e1 := StrLaws.occ_length_le a b 0 a.length (a.length + 1)
    rw [length_partsBetween]; omega
  cases h1 : (decide (a.length < b.length) || decide (Builtin.Str.strKind a < Builtin.Str.strKind b)) with
  | true => exact call_meets F.slot_str_split (typeIs_str _ _ _) F.entry_str_split (F.args_str_split_2 _ _) (meets_str_split_cannot_occur a b t t2 h1) (fin [(a, t)] s.toks (by unfold Txt.split; rw [if_pos h1]; rfl))
  | false =>
    have n1 : ¬ (decide (a.length < b.length) || decide (Builtin.Str.strKind a < Builtin.Str.strKind b)) = true := by rw [h1]; exact Bool.false_ne_true
    cases hf : (Builtin.Str.occurrences a b 0 a.length (a.length + 1)).isEmpty with
    | true => exact call_meets F.slot_str_split (typeIs_str _ _ _) F.entry_str_split (F.args_str_split_2 _ _) (meets_str_split_not_found a b t t2 h1 hb hf) (fin [(a, t)] s.toks (by unfold Txt.split; rw [if_neg n1, if_pos hf]; rfl))
    | false =>
      refine call_meets F.slot_str_split (typeIs_str _ _ _) F.entry_str_split (F.args_str_split_2 _ _) (meets_str_split_sep a b t t2 h1 hb hf (by omega) hn) ?_
      show wants (EP X pins σ Q) X.xe _ { s with toks := _, heap := s.heap.push { cls := .type "list", data := .seq (strsFrom s.toks (Builtin.Str.partsBetween a (Builtin.Str.occurrences a b 0 a.length (a.length + 1)) b.length)).toArray } }
      rw [strsFrom_eq]
      exact fin (numbered s.toks _) _ (by rw [numbered_texts]; unfold Txt.split; rw [if_neg n1, if_neg (by rw [hf]; exact Bool.false_ne_true)])
def rPart : V → List V → Hp → VK → Prop := fun x vs H Q => ∃ a b : Str, x = .str a ∧ vs = [.str b] ∧ (b.length == 0) = false ∧ a.length ≤ sizeLine ∧ ∀ l, H l = none → Q (.ref l) (upd H l (.tup [.str (Txt.partition a b).1, .str (Txt.partition a b).2.1, .str (Txt.partition a b).2.2]))
theorem mt_part : MtR X "str.partition" rPart := by
  intro pins s σ H x vs v us Q I rx rv h
  obtain ⟨a, b, rfl, rfl, hb, hz, q⟩ := h
  obtain ⟨t, rfl⟩ := rx
  obtain ⟨u, rfl, ru⟩ := vals1 rv
  obtain ⟨t2, rfl⟩ := ru
  have fin : ∀ (ta tb tc : Tok) (k : Nat), EP X pins σ Q (.ref s.heap.objs.size) { s with heap := s.heap.push { cls := .type "tuple", data := .seq [.str (Txt.partition a b).1 ta, .str (Txt.partition a b).2.1 tb, .str (Txt.partition a b).2.2 tc].toArray }, toks := k } := fun ta tb tc k => by
    refine ⟨.ref s.heap.objs.size, upd H s.heap.objs.size (.tup _), I.laid (t' := k) (fun _ _ z => Heap.get?_push_of_some _ z) (Nat.le_refl _) ?_, rfl, q _ I.fresh⟩
    exact ⟨by show 3 ≤ sizeLine; decide, _, .cons ⟨_, rfl⟩ (.cons ⟨_, rfl⟩ (.cons ⟨_, rfl⟩ .nil)), ⟨_, Heap.get?_push_size _ rfl, rfl, _, rfl⟩⟩
  refine call_meets F.slot_str_partition (typeIs_str _ _ _) F.entry_str_partition (F.args_str_partition_2 _ _) (meets_str_partition a b t t2 hb hz) ?_
  have fin' := fin
  unfold Txt.partition at fin'
  revert fin'
  cases Builtin.Str.occurrences a b 0 a.length 1 with
  | nil => exact fun z => z _ _ _ _
  | cons i r => exact fun z => z _ _ _ _
def rJoin (K : PySem.W.Frag) : V → List V → Hp → VK → Prop := fun x vs H Q => ∃ (a : Str) (p : Addr) (ts : List Str), x = .str a ∧ vs = [.ref p] ∧ SqL K H p (ts.map .str) ∧ JoinOk a ts = true ∧ Q (.str (Txt.join a ts)) H
theorem strs_of : ∀ {ts : List Str} {us : List Value}, Vals (ts.map V.str) us → ∃ l : List (Str × Tok), us = strValues l ∧ l.map (·.1) = ts
  | [], _, .nil => ⟨[], rfl, rfl⟩
  | a :: ts, _, .cons r t => by
    obtain ⟨l, rfl, rfl⟩ := strs_of t
    obtain ⟨k, rfl⟩ := r
    exact ⟨(a, k) :: l, rfl, rfl⟩
theorem mt_join : MtR X "str.join" (rJoin X.K) := by
  intro pins s σ H x vs v us Q I rx rv h
  obtain ⟨a, p, ts, rfl, rfl, hp, hj, q⟩ := h
  obtain ⟨t, rfl⟩ := rx
  obtain ⟨u, rfl, ru⟩ := vals1 rv
  cases ru
  obtain ⟨its, r, pl, hz⟩ := I.list hp
  obtain ⟨l, rfl, hl⟩ := strs_of r
  exact SC.join pl.isList hl hj fun t' k => ⟨.str _, H, I.tok _, ⟨_, rfl⟩, q⟩
theorem call_int_str : CallR X (.type "int") (fun xs H Q => ∃ (a : Str) (n : Int), xs = [.str a] ∧ a.length ≤ 640 ∧ intText? a = some n ∧ Q (.int n) H) := by
  intro pins s σ H xs us Q I r h
  obtain ⟨a, n, rfl, hl, hn, q⟩ := h
  obtain ⟨u, rfl, ru⟩ := vals1 r
  obtain ⟨t, rfl⟩ := ru
  exact PySem.W.KIN.call_text hn hl ⟨.int n, H, I.tok _, ⟨_, rfl⟩, q⟩
def rSlS : V → Option Int → Option Int → Hp → VK → Prop := fun x lo hi H Q => ∃ a : Str, x = .str a ∧ a.length ≤ sizeLine ∧ Q (.str (StrLaws.sliceText a lo hi)) H
theorem part_of {v : Value} {o : Option Int} (p : IsPart v o) : ∃ l : Option (Int × Tok), v = partValue l ∧ l.map (·.1) = o := by
  cases p with
  | none => exact ⟨none, rfl, rfl⟩
  | int i t => exact ⟨some (i, t), rfl, rfl⟩
theorem sl_str : SlR X rSlS := by
  intro pins s σ H x v vl vu lo hi sl Q I rx hs pl pu h
  obtain ⟨a, rfl, hz, q⟩ := h
  obtain ⟨t, rfl⟩ := rx
  obtain ⟨l, rfl, rfl⟩ := part_of pl
  obtain ⟨u, rfl, rfl⟩ := part_of pu
  refine ⟨"str", _, F.slot_str_getitem.lookup, typeIs_str _ _ _, ?_⟩
  refine wpAny_getItem_str_slice (l := l) (u := u) (st := none) hs rfl ?_
  unfold StrLaws.sliceText at q
  show (if ((1 : Int) == 1 && (Builtin.Str.strSliceIndices (l.map (·.1)) (u.map (·.1)) 1 a.length).length == a.length) = true then Made.val (Value.str a t) else Made.str ⟨((Builtin.Str.strSliceIndices (l.map (·.1)) (u.map (·.1)) 1 a.length).filterMap (a.cps[·]?)).toArray⟩).post (EP X pins σ Q) s
  by_cases c : ((1 : Int) == 1 && (Builtin.Str.strSliceIndices (l.map (·.1)) (u.map (·.1)) 1 a.length).length == a.length) = true
  · rw [if_pos c] at q
    rw [if_pos c]
    exact ⟨.str a, H, I, ⟨t, rfl⟩, q⟩
  · rw [if_neg c] at q
    rw [if_neg c]
    refine ⟨?_, .str _, H, I.tok _, ⟨_, rfl⟩, q⟩
    have h1 := sliceIndices_le (l.map (·.1)) (u.map (·.1)) a.length
    have h2 := List.length_filterMap_le (fun x => a.cps[x]?) (Builtin.Str.strSliceIndices (l.map (·.1)) (u.map (·.1)) 1 a.length)
    show (List.toArray _).size ≤ _
    rw [List.size_toArray]
    omega
def Its (x : Str) : It where
  go := fun i _ => i < x.length
  stop := fun i _ => x.length ≤ i
  yld := fun i H v H' => H' = H ∧ ∃ c, x.cps[i]? = some c ∧ v = .str ⟨#[c]⟩
theorem turn_str {P : Program} {w : World} {K : PySem.W.Frag} {tg : Expr} (x : Str) (t : Tok) (it : Addr) : Turn P w K tg (Its x) [it] it (fun i h => h.IsStrIter it "str_ascii_iterator" x t i) where
  mem := by simp
  obj := fun i h st b hb => by
    have e : b = it := by simpa using hb
    subst e
    obtain ⟨o, e, c, d⟩ := st
    exact ⟨o, e, fun v z => by rw [d] at z; cases z⟩
  keep := fun i h h' st k => by
    obtain ⟨o, e, r⟩ := st
    exact ⟨o, k it (by simp) o e, r⟩
  item := by
    intro X hP hw hK hc i pins s σ H E I hf st hg
    subst hP hw hK
    have hg : i < x.length := hg
    obtain ⟨c, hcx⟩ : ∃ c, x.cps[i]? = some c := ⟨x.cps[i], Array.getElem?_eq_getElem hg⟩
    obtain ⟨f0, f1, f2, f3, f4, f5⟩ := hf it (by simp)
    refine wpAny_pyNext_ascii_item st hcx fun h' st' sb => ?_
    have I1 : Inv X pins σ H { s with heap := h', toks := s.toks + 1 } := I.turned (t' := s.toks + 1) (fun b o hb e => (sb.2 b hb).trans e) f0 f1 f3 f4 f5
    obtain ⟨o, e, cl, d⟩ := id st'
    exact ⟨_, rfl, go_of (s := { s with heap := h', toks := s.toks + 1 }) e cl d (by decide) ⟨.str ⟨#[c]⟩, H, I1, ⟨_, rfl⟩, ⟨rfl, c, hcx, rfl⟩, st', fun b hb => (hf b hb).1⟩⟩
  done := by
    intro X hP hw hK hc i pins s σ H E I hf st hg
    subst hP hw hK
    have hg : x.length ≤ i := hg
    obtain ⟨f0, f1, f2, f3, f4, f5⟩ := hf it (by simp)
    exact wpAny_pyNext_ascii_end (I.ok.hd hc) st (Array.getElem?_eq_none hg) fun h' eb => ⟨rfl, I.turned (t' := s.toks) (fun b o hb e => eb b o hb e) f0 f1 f3 f4 f5⟩
  self := fun _ _ _ _ _ st h => wpAny_pyIter_striter_ascii st h
def iStr (te : TE) : TI := fun σ H R => te σ H fun v H1 => ∃ x : Str, v = .str x ∧ x.cps.all (· < 128) = true ∧ R (Its x) H1
theorem pi_str {tg e : Expr} {te : TE} (he : PE X e te) : PI X tg e (iStr te) := by
  intro pins s σ H R I h
  refine thn (he pins s σ H _ I h) fun v s1 ⟨y, H1, I1, r1, q1⟩ => ?_
  obtain ⟨x, e, ha, q⟩ := q1
  subst e
  obtain ⟨t, rfl⟩ := r1
  refine wpAny_pyIter_ascii ha ?_
  refine ⟨s1.heap.objs.size, [s1.heap.objs.size], _, _, H1, rfl, I1.kept (t' := s1.toks) fun b o e => Heap.get?_push_of_some _ e, turn_str x t _, ⟨_, Heap.get?_push_size _ rfl, rfl, rfl⟩, fun b hb => ?_, q⟩
  have e : b = s1.heap.objs.size := by simpa using hb
  subst e
  exact I1.fpOk (Nat.le_refl _) I1.fresh
end
end L2
set_option Elab.async false
set_option linter.all false
set_option maxRecDepth 100000
set_option maxHeartbeats 4000000
namespace L2
open PySem PySem.Spec PyProof.Rows
theorem KF.anyIf {e : Addr} {c : Value} {p : Prop} {α : Type} {t : Sem α} (k : KF e c t) {M : Model} {A : Around} {Q : α → Shared → Prop} {E : Value → Shared → Prop} {s : Shared} (hF : p → F2 e c s.heap) (h : wpAny M A t Q E s) : wpAny M A t (fun a s' => Q a s' ∧ (p → F2 e c s'.heap)) E s := by
  by_cases hp : p
  · exact thn (k.any (hF hp) h) fun a s' z => ⟨z.1, fun _ => z.2⟩
  · exact thn h fun a s' z => ⟨z, fun y => absurd y hp⟩
section
variable {X : Cx} {pins : List (Addr × Obj)}
theorem catch_core {x n : Str} {L : Addr} {suite : List Stmt} {b0 : Stmt} {np hpos : Pos} {bmL : List Value} {newL : String} {E : XK} {σ1 : St} {H1 : Hp} {s1 s2 : Shared} {ev : Value} {Q : Flow → Shared → Prop}
    (o : Own X) (hc : X.calm = true) (hg : Gl X x) (hm : X.mg x = some (.ref L)) (hq : PySem.W.excIn X.K L bmL newL = true) (hbL : bmL.contains (.type "BaseException") = true)
    (I0 : Inv X pins σ1 H1 s1) (hx : CXF X.prog X.w X.stack H1 s1 E ev s2)
    (hcl : ∀ C m H2, E (.ref C) m H2 → (∃ bm newId, PySem.W.excIn X.K C bm newId = true) ∧ PySem.W.mroIn X.K C (.ref L) = some true)
    (fin : ∀ (a C : Addr) (m : Option Addr) (H2 : Hp) (h5 : Heap), E (.ref C) m H2 → Inv X pins σ1 H2 { s2 with heap := h5 } → FlyAt H2 s1.heap a C h5 → (m = none → F2 a .none h5) →
      (∀ b, s1.heap.get? b = none → b ≠ X.env.locals ∧ (∀ y c, X.env.cells.lookup y = some c → c ≠ b) ∧ (∀ p ∈ X.pn ++ pins, p.1 ≠ b) ∧ X.s₀.heap.get? b = none) → (∀ b ob, s1.heap.get? b = some ob → ∃ o2, h5.get? b = some o2) →
      wpAny (model X.prog X.w) (X.A.mark (some (.ref a))) (storeName X.env n (.ref a)) (fun _ s6 =>
        wpAny (model X.prog X.w) (X.A.mark (some (.ref a))) (execs (b0 :: suite) X.env) (fun f s7 => wpAny (model X.prog X.w) X.A (do bindName X.env n .none; unbindBehindTheSuite X.env n hpos) (fun _ s8 => Q f s8) X.xe s7)
          (AsSuiteRaised (model X.prog X.w) (X.A.mark (some (.ref a))) X.env n hpos (notedBy (model X.prog X.w) (X.A.mark (some (.ref a))) X.env (cameBackBy (model X.prog X.w) X.A X.env X.xe))) s6)
        (notedBy (model X.prog X.w) (X.A.mark (some (.ref a))) X.env (cameBackBy (model X.prog X.w) X.A X.env X.xe)) { s2 with heap := h5 }) (hd : (x == ("__debug__" : Str)) = false := by decide) :
    wpAny (model X.prog X.w) X.A (noteFrame ev X.env) (fun _ t₁ => wpAny (model X.prog X.w) X.A (setFlight ev none) (fun _ t₂ =>
      wpAny (model X.prog X.w) X.A (handleBy ev X.env [.ExceptHandler (some (.Name x np)) (some n) (b0 :: suite) hpos]) Q X.xe t₂) X.xe t₁) X.xe s2 := by
  obtain ⟨a, C, m, H2, rfl, os, bare, un, ok, fl, hF, hE⟩ := hx
  obtain ⟨⟨bmC, newC, hqC⟩, hsub⟩ := hcl C m H2 hE
  have I2 : Inv X pins σ1 H2 s2 := I0.call' os un ok bare (fun b z => absurd z (by simp))
  have new_ne : ∀ {b : Addr}, s1.heap.get? b = none → b ≠ X.env.locals ∧ (∀ y c, X.env.cells.lookup y = some c → c ≠ b) ∧ (∀ p ∈ X.pn ++ pins, p.1 ≠ b) ∧ X.s₀.heap.get? b = none := fun {b} z => by
    refine ⟨fun q => ?_, fun y c hy q => ?_, fun p hp q => ?_, ?_⟩
    · obtain ⟨m, ⟨ob, _, _, hob, _⟩, _⟩ := I0.loc
      rw [← q, z] at hob; cases hob
    · obtain ⟨v, ob, hob, _⟩ := I0.cell y c hy
      rw [q, z] at hob; cases hob
    · have e1 := (I0.pin p hp).1
      rw [q, z] at e1; cases e1
    · cases q : X.s₀.heap.get? b with
      | none => rfl
      | some ob =>
        obtain ⟨o2, e2⟩ := o.up I0 b ob q
        rw [z] at e2; cases e2
  have h01 : ∀ b ob, s1.heap.get? b = some ob → ∃ o2, s2.heap.get? b = some o2 := fun b ob q => un.there b ob q (by simp)
  obtain ⟨oe, vs, T, oT, ts, a0, t1, t2, t4, t3, t5, t7, t8, t9, t10, t11, t12⟩ := fl.ex
  have hext : ∀ b ∈ [a, T], s1.heap.get? b = none ∧ H2 b = none := fun b hb' => by
    rcases List.mem_cons.mp hb' with rfl | hb'
    · exact ⟨fl.new, fl.nt⟩
    · have z : b = T := by simpa using hb'
      subst z
      exact ⟨t11, t12⟩
  have hfr : X.A.frames = some (X.env :: X.outer) := by rw [I0.ok.frames, o.st]
  refine thn ((kf_noteFrame (.ref a) X.env).anyIf hF (wpAny_noteFrame_onW (base := PySem.W.hideAll s2.heap (frs X.stack ++ [a, T])) (cls := .ref C) (a0 := a0) (outer := X.outer) (Q := fun _ s' => ∃ h3, s' = { s2 with heap := h3 } ∧ Heap.NotedW (PySem.W.hideAll s2.heap (frs X.stack ++ [a, T])) (X.env :: X.outer) a (.ref C) a0 (rawInt X.env.locals) s2.heap h3) hfr (hid_frames I2 o [a, T]) o.fr
    ⟨oe, vs, T, oT, ts, t1, ⟨t2, t3⟩, t4, t5, PySem.W.hideAll_none _ (by simp), t7, t8, t9, t10⟩ (fun b ob q => PySem.W.of_hideAll _ q) (PySem.W.hideAll_none _ (by simp)) fun h3 hN3 => ⟨h3, rfl, hN3⟩)) fun _ s3 ⟨⟨h3, e3, hN3⟩, f3⟩ => ?_
  subst e3
  obtain ⟨n1, n2, n3, n4⟩ := hN3
  refine thn ((kf_setFlight (.ref a) none).anyIf f3 (wpAny_setFlight_noneW (s := { s2 with heap := h3 }) (Q := fun _ s' => ∃ h4, s' = { s2 with heap := h4 } ∧ (PySem.W.hideAll s2.heap (frs X.stack ++ [a, T])).StaysIn h4 ∧ h4.FunFrames (PySem.W.hideAll s2.heap (frs X.stack ++ [a, T])) (X.env :: X.outer) ∧ h4.TracedW (PySem.W.hideAll s2.heap (frs X.stack ++ [a, T])) a (.ref C) a0 ∧ ∀ b o, h3.get? b = some o → (∀ vs, o.data ≠ .fields vs) → h4.get? b = some o) n1 n2 n3 fun h4 m1 m2 m3 m4 => ⟨h4, rfl, m1, m2, m3, m4⟩)) fun _ s4 ⟨⟨h4, e4, m1, m2, m3, m4⟩, f4⟩ => ?_
  subst e4
  have LW : Heap.LeftW (PySem.W.hideAll s2.heap (frs X.stack ++ [a, T])) (X.env :: X.outer) a (.ref C) a0 s2.heap h4 := ⟨m1, m2, m3, fun b ob q hnf => by
    obtain ⟨sl, e1⟩ := n4 b ob q hnf
    exact ⟨sl, m4 b _ e1 hnf⟩⟩
  obtain ⟨_, _, fl4⟩ := left_ok I2 o (o.up I0) h01 hext (by simp) LW
  have I4 : Inv X pins σ1 H2 { s2 with heap := h4 } := left_inv I2 o (fun b hb' => ⟨(new_ne (hext b hb').1).2.2.2, (hext b hb').2, (new_ne (hext b hb').1).2.2.1⟩) (by simp) LW
  have up4 : ∀ {hA hB : Heap} {ext : List Addr} {eT : Addr} {cl v0 : Value}, (∀ b ∈ ext, s1.heap.get? b = none ∧ H2 b = none) → Inv X pins σ1 H2 { s2 with heap := hA } → (∀ b ob, s1.heap.get? b = some ob → ∃ o2, hA.get? b = some o2) → Heap.LeftW (PySem.W.hideAll hA (frs X.stack ++ ext)) (X.env :: X.outer) eT cl v0 hA hB → ∀ b ob, s1.heap.get? b = some ob → ∃ o2, hB.get? b = some o2 := fun {hA hB ext eT cl v0} hex IA up LWA b ob q => by
    obtain ⟨o2, e2⟩ := up b ob q
    by_cases hbf : b ∈ frs X.stack
    · obtain ⟨_, o3, ho3, hd3⟩ := IA.stack.mem hbf
      obtain ⟨sl, e4⟩ := LWA.2.2.2 b o3 ho3 hd3
      exact ⟨_, e4⟩
    · refine ⟨o2, LWA.1 b o2 (PySem.W.hideAll_get _ e2 fun z => (List.mem_append.mp z).elim hbf fun z => ?_)⟩
      rw [(hex b z).1] at q; cases q
  have h04 := up4 hext I2 h01 LW
  have hkin : X.K.In h4 := I4.kIn
  obtain ⟨bC, NC, nmC, qnC, bsC, hdC, snC, subC, abC, colC, ddC, c0, c1, c2, c3, c5, mNC, hCK, _, _, _⟩ := excIn_obj hkin hqC
  obtain ⟨bL, NL, nmL, qnL, bsL, hdL, snL, subL, abL, colL, ddL, l0, l1, l2, l3, l5, mNL, hLK, _, _, TL⟩ := excIn_obj hkin hq
  have hmro : (Value.ref C :: bC).contains (.ref L) = true := by
    unfold PySem.W.mroIn PySem.W.clsIn at hsub
    rw [hCK] at hsub
    simpa [excClassObj] using hsub
  refine wpAny_handleBy_cons (codeAny_handlers_test ?_) (by intro q; cases q)
  have hglob : ∀ {E' : Value → Shared → Prop} {Q' : Value → Shared → Prop}, Q' (.ref L) { s2 with heap := h4 } → wpAny (model X.prog X.w) (X.A.mark (some (.ref a))) (eval (.Name x np) X.env) Q' E' { s2 with heap := h4 } := fun {E' Q'} q =>
    Calls.Name_function_global I0.ok.kind hg (Calls.loadGlobal_global (by rw [I0.ok.glob]; exact I4.mod.glob.keeps I4.bk) hm q) hd
  refine hglob ?_
  obtain ⟨oe4, vs4, T4, oT4, ts4, a04, u1, u2, u4, u3, u5, u7, u8, u9, u10, u11, u12⟩ := fl4.ex
  obtain ⟨hp2, g2, d2, tk2, os2⟩ := s2
  refine excMatches_own (hkin _ _ hCK) (hkin _ _ hLK) u1 u2 (TL.hasType hbL) hmro ?_
  show codeAny _ _ (.handlers _ _ _) _ _
  refine codeAny_handlers_suite_as ?_
  have hext4 : ∀ b ∈ [a, T4], s1.heap.get? b = none ∧ H2 b = none := fun b hb' => by
    rcases List.mem_cons.mp hb' with rfl | hb'
    · exact ⟨fl4.new, fl4.nt⟩
    · have z : b = T4 := by simpa using hb'
      subst z
      exact ⟨u11, u12⟩
  have kb4 : (PySem.W.hideAll h4 (frs X.stack ++ [a, T4])).StaysIn h4 := fun b ob q => PySem.W.of_hideAll _ q
  have fr4 := hid_frames I4 o [a, T4]
  refine thn ((kf_setFlight (.ref a) none).anyIf f4 (wpAny_setFlight_noneW (s := ⟨h4, g2, d2, tk2, os2⟩) (base := PySem.W.hideAll h4 (frs X.stack ++ [a, T4])) (l := X.env :: X.outer) (cls := .ref C) (a0 := a04) (fl := .none) (Q := fun _ s' => ∃ h5, s' = ⟨h5, g2, d2, tk2, os2⟩ ∧ Heap.LeftW (PySem.W.hideAll h4 (frs X.stack ++ [a, T4])) (X.env :: X.outer) a (.ref C) a04 h4 h5) kb4 fr4
    ⟨oe4, vs4, T4, oT4, ts4, u1, ⟨u2, u3⟩, u4, u5, PySem.W.hideAll_none _ (by simp), u7, u8, u9, u10⟩ fun h5 r1 r2 r3 r4 => ⟨h5, rfl, r1, r2, r3, fun b ob q hnf => ⟨ob.slots, r4 b ob q hnf⟩⟩)) fun _ s5 ⟨⟨h5, e5, LW5⟩, f5⟩ => ?_
  subst e5
  obtain ⟨_, _, fl5⟩ := left_ok I4 o (o.up I0) h04 hext4 (by simp) LW5
  have I5 : Inv X pins σ1 H2 ⟨h5, g2, d2, tk2, os2⟩ := left_inv I4 o (fun b hb' => ⟨(new_ne (hext4 b hb').1).2.2.2, (hext4 b hb').2, (new_ne (hext4 b hb').1).2.2.1⟩) (by simp) LW5
  exact fin a C m H2 h5 hE I5 fl5 f5 (fun b z => new_ne z) (up4 hext4 I4 h04 LW5)
abbrev Cx.q (X : Cx) : Cx := { X with xe := fun _ _ => False }
theorem Inv.q {σ : St} {H : Hp} {s : Shared} (I : Inv X pins σ H s) : Inv X.q pins σ H s :=
  ⟨⟨I.ok.mod, I.ok.kind, I.ok.glob, I.ok.blt, I.ok.above, I.ok.inj, I.ok.has, I.ok.cab, I.ok.hd, I.ok.frames, I.ok.stk, I.ok.exf, I.ok.bs, I.ok.bsz, I.ok.noex, I.ok.exfs, I.ok.funs, I.ok.frf⟩, I.os, I.bare, I.base, I.loc, I.cell, I.free, I.freeC, I.pin, I.hok, I.len⟩
theorem Inv.unq {σ : St} {H : Hp} {s : Shared} (I : Inv X.q pins σ H s) : Inv X pins σ H s :=
  ⟨⟨I.ok.mod, I.ok.kind, I.ok.glob, I.ok.blt, I.ok.above, I.ok.inj, I.ok.has, I.ok.cab, I.ok.hd, I.ok.frames, I.ok.stk, I.ok.exf, I.ok.bs, I.ok.bsz, I.ok.noex, I.ok.exfs, I.ok.funs, I.ok.frf⟩, I.os, I.bare, I.base, I.loc, I.cell, I.free, I.freeC, I.pin, I.hok, I.len⟩
theorem call_err {CX : CXT} {k : Nat} {f : Addr} {fd : FuncData} {ps : List Str} {sp : Sp} {dvs : List V} {ds : List Value} {E : XK} {x : Str} {p pos : Pos} {e : Expr} {es : List Expr} {t : TA} {s : Shared} {σ : St} {H : Hp} {Q : VK} {err : Value → Shared → Prop}
    (F : FnOk X.prog X.w X.K X.mg X.base CX k f fd ps sp) (hr : Room k X.A) (hg : Gl X x) (hm : X.mg x = some (.ref f)) (hk : PySem.W.keepIn X.K (.ref f) = true) (hb : Binds X.K fd ps ds) (hd : Vals dvs ds) (ha : PA X.q (e :: es) t)
    (I : Inv X pins σ H s) (h : tCall sp dvs E t σ H Q) (hx : ∀ H1 s1 ev s2, Inv X pins σ H1 s1 → CX X.stack H1 s1 E ev s2 → err ev s2)
    (hdb : (x == ("__debug__" : Str)) = false := by decide) (he : starEach (e :: es) X.env = (false, eval e X.env) :: starEach es X.env := by rfl) (hpl : (backTo pos (starEach es X.env)).any (·.1) = false := by rfl) :
    wpAny (model X.prog X.w) X.A (eval (.Call (.Name x p) (e :: es) [] pos) X.env) (EP X pins σ Q) err s := by
  refine wpAny_Call_Name_kw (ld_glob I hg hm ?_ hdb)
  refine PySem.W.callWith_K (h₀ := X.base) I.ok.mod.kin hk (wpAny_mono (ha pos pins s σ H _ I.q h) (fun us s1 ⟨vs, H1, I1, r, q⟩ => ⟨I1.kIn, ?_⟩) fun _ _ z => False.elim z) he hpl
  have r2 : Vals (vs ++ dvs) (us ++ ds) := r.append hd
  have hl : (us ++ ds).length = ps.length := by rw [← r2.length]; exact F.len _ _ _ _ q
  refine wpAny_call (codeAny_mono (F.run X.A X.stack s1 H1 ⟨us, []⟩ (us ++ ds) (vs ++ dvs) Q E hr I1.unq.env0 (hb s1 us I1.kIn hl) r2 q) fun r s' hq => ?_)
  cases r with
  | error ev => exact hx H1 s1 ev s' I1.unq hq
  | ok fl =>
    cases fl with
    | ret u => exact I1.unq.after hq
    | next => exact False.elim hq
    | brk => exact False.elim hq
    | cont => exact False.elim hq
def tTry1 (L : Addr) (K : PySem.W.Frag) (i : Nat) (tc : XK → TE) (kt : St → V → St) (th : TS) : TS := fun D σ H => ∃ E : XK, tc E σ H (fun v H1 => D.nx (kt σ v) H1) ∧ ∀ C m H1, E (.ref C) m H1 →
  (∃ bm newId, PySem.W.excIn K C bm newId = true) ∧ PySem.W.mroIn K C (.ref L) = some true ∧
  ∀ a H2, Same H1 H2 → H2 a = some (excO a C) →
    th { nx := fun σ' H' => D.nx (σ'.set i none) H', rt := D.rt, bk := fun σ' H' => D.bk (σ'.set i none) H', ct := fun σ' H' => D.ct (σ'.set i none) H' } (σ.set i (some (.ref a))) H2
theorem try1_core {x n : Str} {i : Nat} {L : Addr} {st : Stmt} {suite : List Stmt} {b0 : Stmt} {tc : XK → TE} {kt : St → V → St} {th : TS} {np hpos pos : Pos} {bmL : List Value} {newL : String} (o : Own X) (hc : X.calm = true) (hg : Gl X x) (hm : X.mg x = some (.ref L))
    (hq : PySem.W.excIn X.K L bmL newL = true) (hbL : bmL.contains (.type "BaseException") = true) (hN : X.N.Nodup) (hi : X.N[i]? = some n) (hl : X.env.scope.names.lookup n = some .local)
    (hb : ∀ (pins : List (Addr × Obj)) (s : Shared) (σ : St) (H : Hp) (D : Ends) (E : XK) (err : Value → Shared → Prop), Inv X pins σ H s → tc E σ H (fun v H1 => D.nx (kt σ v) H1) → (∀ H1 s1 ev s2, Inv X pins σ H1 s1 → CXF X.prog X.w X.stack H1 s1 E ev s2 → err ev s2) → wpAny (model X.prog X.w) X.A (exec st X.env) (SP X pins D) err s)
    (hs : ∀ v : Value, PSs (X.hs v) (b0 :: suite) th) (hd : (x == ("__debug__" : Str)) = false := by decide) :
    PS X (.Try [st] [.ExceptHandler (some (.Name x np)) (some n) (b0 :: suite) hpos] [] [] pos) (tTry1 L X.K i tc kt th) := by
  intro pins s σ H D I h
  obtain ⟨E, hbody, hcatch⟩ := h
  refine wpAny_Try_except (wpAny_execs_cons (wpAny_mono (hb pins s σ H D E _ I hbody fun H1 s1 ev s2 I0 hx => ?_) (fun f s1 q => ?_) fun _ _ z => z))
  · refine catch_core (pins := pins) o hc hg hm hq hbL I0 hx (fun C m H2 hE => ⟨(hcatch C m H2 hE).1, (hcatch C m H2 hE).2.1⟩) (fun a C m H2 h5 hE I5 fl5 _ new_ne _ => ?_) hd
    obtain ⟨_, _, hth⟩ := hcatch C m H2 hE
    obtain ⟨oe5, vs5, T5, oT5, ts5, a05, v1, v2, v4, _⟩ := fl5.ex
    obtain ⟨ne1, ne2, ne3, ne4⟩ := new_ne a fl5.new
    have I6 : Inv X pins σ (upd H2 a (excO a C)) { s2 with heap := h5 } := I5.track fl5.nt ne4 ne1 ne2 ne3
      ⟨⟨oe5, vs5, v1, v2, v4⟩, ⟨oe5, v1⟩, fun k1 k2 ⟨ox, vx, y1, y2, y3⟩ kk => ⟨ox, vx, kk _ y1, y2, y3⟩⟩
    have S0 : Same H2 (upd H2 a (excO a C)) := fun b u q => by rw [upd_ne fun z => by rw [z, fl5.nt] at q; cases q]; exact q
    refine store_ok (X := X.hs (.ref a)) (v := .ref a) I6.hs hN hi (.inl hl) rfl (fun s8 I8 => ?_) (.inr hl)
    refine wpAny_mono (hs (.ref a) pins s8 _ _ _ I8 (hth a (upd H2 a (excO a C)) S0 upd_same)) (fun f s9 q9 => ?_) fun _ _ z => False.elim z
    have hdX : X.calm = true → X.A.handled = none := I.ok.hd
    cases f with
    | next =>
      obtain ⟨σ9, H9, I9, q⟩ := q9
      exact name_goes (I9.unhs hdX) hN hi hl fun s10 I10 => ⟨_, H9, I10, q⟩
    | brk =>
      obtain ⟨σ9, H9, I9, q⟩ := q9
      exact name_goes (I9.unhs hdX) hN hi hl fun s10 I10 => ⟨_, H9, I10, q⟩
    | cont =>
      obtain ⟨σ9, H9, I9, q⟩ := q9
      exact name_goes (I9.unhs hdX) hN hi hl fun s10 I10 => ⟨_, H9, I10, q⟩
    | ret u =>
      obtain ⟨v9, σ9, H9, I9, r9, q⟩ := q9
      exact name_goes (I9.unhs hdX) hN hi hl fun s10 I10 => ⟨v9, _, H9, I10, r9, q⟩
  · cases f with
    | next => exact wpAny_execs_nil (wpAny_execs_nil q)
    | brk => exact q
    | cont => exact q
    | ret u => exact q
theorem body_expr {k : Nat} {f : Addr} {fd : FuncData} {ps : List Str} {sp : Sp} {dvs : List V} {ds : List Value} {x : Str} {p pos epos : Pos} {e : Expr} {es : List Expr} {t : TA}
    (F : FnOk X.prog X.w X.K X.mg X.base (CXF X.prog X.w) k f fd ps sp) (hr : Room k X.A) (hg : Gl X x) (hm : X.mg x = some (.ref f)) (hk : PySem.W.keepIn X.K (.ref f) = true) (hb : Binds X.K fd ps ds) (hd : Vals dvs ds) (ha : PA X.q (e :: es) t)
    (hs : swapsWith (.Call (.Name x p) (e :: es) [] pos) none epos.line X.env = pure false := by rfl)
    (hdb : (x == ("__debug__" : Str)) = false := by decide) (he : starEach (e :: es) X.env = (false, eval e X.env) :: starEach es X.env := by rfl) (hpl : (backTo pos (starEach es X.env)).any (·.1) = false := by rfl) :
    ∀ (pins : List (Addr × Obj)) (s : Shared) (σ : St) (H : Hp) (D : Ends) (E : XK) (err : Value → Shared → Prop), Inv X pins σ H s → tCall sp dvs E t σ H (fun v H1 => D.nx σ H1) → (∀ H1 s1 ev s2, Inv X pins σ H1 s1 → CXF X.prog X.w X.stack H1 s1 E ev s2 → err ev s2) →
      wpAny (model X.prog X.w) X.A (exec (.Expr (.Call (.Name x p) (e :: es) [] pos) epos) X.env) (SP X pins D) err s := by
  intro pins s σ H D E err I h hx
  exact wpAny_Expr_any (thn (call_err F hr hg hm hk hb hd ha I h hx hdb he hpl) fun v s1 ⟨y, H1, I1, r1, q1⟩ => ⟨σ, H1, I1, q1⟩) I.quiet hs
theorem body_set {k j : Nat} {f : Addr} {fd : FuncData} {ps : List Str} {sp : Sp} {dvs : List V} {ds : List Value} {x y : Str} {p pos py spos : Pos} {e : Expr} {es : List Expr} {t : TA} (hN : X.N.Nodup) (hj : X.N[j]? = some y) (hy : Loc X.env.scope y)
    (F : FnOk X.prog X.w X.K X.mg X.base (CXF X.prog X.w) k f fd ps sp) (hr : Room k X.A) (hg : Gl X x) (hm : X.mg x = some (.ref f)) (hk : PySem.W.keepIn X.K (.ref f) = true) (hb : Binds X.K fd ps ds) (hd : Vals dvs ds) (ha : PA X.q (e :: es) t)
    (hs : swapsWith (.Call (.Name x p) (e :: es) [] pos) (some (.Name y py)) spos.line X.env = pure false := by rfl)
    (hf : X.fn y = true ∨ X.env.scope.names.lookup y = some .local := by first | exact .inl rfl | exact .inr rfl)
    (hdb : (x == ("__debug__" : Str)) = false := by decide) (he : starEach (e :: es) X.env = (false, eval e X.env) :: starEach es X.env := by rfl) (hpl : (backTo pos (starEach es X.env)).any (·.1) = false := by rfl) :
    ∀ (pins : List (Addr × Obj)) (s : Shared) (σ : St) (H : Hp) (D : Ends) (E : XK) (err : Value → Shared → Prop), Inv X pins σ H s → tCall sp dvs E t σ H (fun v H1 => D.nx (σ.set j (some v)) H1) → (∀ H1 s1 ev s2, Inv X pins σ H1 s1 → CXF X.prog X.w X.stack H1 s1 E ev s2 → err ev s2) →
      wpAny (model X.prog X.w) X.A (exec (.Assign [.Name y py] (.Call (.Name x p) (e :: es) [] pos) spos) X.env) (SP X pins D) err s := by
  intro pins s σ H D E err I h hx
  refine wpAny_Assign_Name (thn (call_err F hr hg hm hk hb hd ha I h hx hdb he hpl) fun v s1 ⟨z, H1, I1, r1, q1⟩ => ?_) hs
  exact store_ok I1 hN hj hy r1 (fun s2 I2 => ⟨_, H1, I2, q1⟩) hf
end
end L2
set_option Elab.async false
set_option linter.all false
set_option maxRecDepth 100000
set_option maxHeartbeats 4000000
namespace L2
open PySem PySem.Spec PyProof.Rows
theorem entry_unchain : entryFor table "proto.unchain" = some Builtin.«proto.unchain» := entryFor_of_tree (by kernel_rfl)
section
variable {prog : Program} {w : World} {A : Around} {E : Value → Shared → Prop} {s : Shared} {env : Env}
theorem raiseNew_from {e a : Addr} {oe oa : Obj} {ve va : Array Value} {Q : Flow → Shared → Prop} (hh : A.handled = some (.ref a)) (hne : a ≠ e) (he : s.heap.get? e = some oe) (hd : oe.data = .fields ve) (h5 : 2 < ve.size)
    (ha : s.heap.get? a = some oa) (hda : oa.data = .fields va) (h2 : va[2]? = some .none) (hE : E (.ref e) { s with heap := s.heap.update e (Obj.mapFields (·.setIfInBounds 2 (.ref a))) }) :
    wpAny (model prog w) A (raiseNew (.ref e) : Sem Flow) Q E s := by
  unfold raiseNew
  refine wpAny_bind (wpAny_handled ?_)
  rw [hh]
  dsimp only
  rw [if_pos (show (Value.ref a != Value.ref e) = true by simp [hne])]
  refine wpAny_bind (wpAny_holding (runValue_entry entry_unchain ?_))
  show wpAny _ _ (field (.ref a) 2 >>= _) _ _ _
  refine wpAny_bind (wpAny_field ha hda h2 ?_)
  rw [if_pos (by rfl)]
  refine wpAny_bind (wpAny_pure ?_)
  refine wpAny_pure ⟨_, rfl, ?_⟩
  show wpAny _ _ (setField (.ref e) 2 (.ref a) >>= fun _ => throw (.ref e)) _ _ _
  exact wpAny_bind (wpAny_setField he hd h5 (wpAny_throw hE))
def fromH (h : Heap) (e a : Addr) : Heap := ((h.update e (Obj.mapFields (·.setIfInBounds 3 (.ref a)))).update e (Obj.mapFields (·.setIfInBounds 4 (.bool true)))).update e (Obj.mapFields (·.setIfInBounds 2 (.ref a)))
theorem raiseStmt_from {x c : Sem Value} {Q : Flow → Shared → Prop} {a : Addr} (hh : A.handled = some (.ref a))
    {nm q : Str} {D N : Addr} {bs bm : List Value} {hdct : Bool} {sn : List Str} {sub : List Value} {ab : Bool} {col : Option Bool} {dd : Option Addr} {k0 k1 k2 k3 k5 : Option Value} {newId : String} (hbase : bm.contains (.type "BaseException") = true)
    {nm' q' : Str} {C N' : Addr} {bs' bm' : List Value} {hdct' : Bool} {sn' : List Str} {sub' : List Value} {ab' : Bool} {col' : Option Bool} {dd' : Option Addr} {l0 l1 l2 l3 l5 : Option Value} {newId' : String} (hbase' : bm'.contains (.type "BaseException") = true)
    (h : wpAny (model prog w) A x (fun v s₁ => ∃ e t, v = .ref e ∧ wpAny (model prog w) A c (fun cv s₂ => cv = .ref a ∧ a ≠ e ∧
      s₂.heap.get? D = some (excClassObj nm q D N bs bm hdct sn sub ab col dd k0 k1 k2 k3 k5 newId) ∧ s₂.heap.get? e = some { cls := .ref D, data := .fields #[.ref t, .none, .none, .none, .bool false, .none] } ∧
      s₂.heap.get? C = some (excClassObj nm' q' C N' bs' bm' hdct' sn' sub' ab' col' dd' l0 l1 l2 l3 l5 newId') ∧ (∃ oa va, s₂.heap.get? a = some oa ∧ oa.cls = .ref C ∧ oa.data = .fields va ∧ va[2]? = some .none) ∧
      E (.ref e) { s₂ with heap := fromH s₂.heap e a }) E s₁) E s) :
    wpAny (model prog w) A (raiseStmt env (some x) (some c)) Q E s := by
  have hcB : (Value.ref D :: bm).contains (.type "BaseException") = true := by rw [List.contains_cons, hbase, Bool.or_true]
  have hcB' : (Value.ref C :: bm').contains (.type "BaseException") = true := by rw [List.contains_cons, hbase', Bool.or_true]
  unfold raiseStmt
  refine wpAny_bind (wpAny_mono h (fun v s₁ h₁ => ?_) fun _ _ x => x)
  obtain ⟨e, t, rfl, hc⟩ := h₁
  refine wpAny_bind (wpAny_holding (wpAny_mono hc (fun cv s₂ h₂ => wpAny_bind (wpAny_pure ?_)) fun _ _ x => x))
  obtain ⟨rfl, hne, hD, he, hC, ⟨oa, va, ha, hcl, hda, h2⟩, hE⟩ := h₂
  obtain ⟨hp, g, d, tk, os⟩ := s₂
  have hDe : e ≠ D := fun z => by rw [← z, he] at hD; cases hD
  have f3 := Obj.data_mapFields (o := { cls := .ref D, data := .fields #[.ref t, .none, .none, .none, .bool false, .none] }) rfl (·.setIfInBounds 3 (Value.ref a))
  have f4 := Obj.data_mapFields f3 (·.setIfInBounds 4 (Value.bool true))
  have he3 := Heap.get?_update_self (Obj.mapFields (·.setIfInBounds 3 (Value.ref a))) he (Obj.isFreed_of_fields f3)
  have he4 := Heap.get?_update_self (Obj.mapFields (·.setIfInBounds 4 (Value.bool true))) he3 (Obj.isFreed_of_fields f4)
  have hD4 := (Heap.get?_update_other (hp.update e (Obj.mapFields (·.setIfInBounds 3 (Value.ref a)))) (Obj.mapFields (·.setIfInBounds 4 (Value.bool true))) hDe).trans ((Heap.get?_update_other hp (Obj.mapFields (·.setIfInBounds 3 (Value.ref a))) hDe).trans hD)
  have ha4 := (Heap.get?_update_other (hp.update e (Obj.mapFields (·.setIfInBounds 3 (Value.ref a)))) (Obj.mapFields (·.setIfInBounds 4 (Value.bool true))) (Ne.symm hne)).trans ((Heap.get?_update_other hp (Obj.mapFields (·.setIfInBounds 3 (Value.ref a))) (Ne.symm hne)).trans ha)
  repeat (first | with_reducible refine wpAny_loadPart_at he ?_ | with_reducible refine wpAny_loadPart_at hD ?_ | (with_reducible refine wpAny_loadPart_at ha ?_; rw [hcl]) | with_reducible refine wpAny_loadPart_at hC ?_ | (with_reducible refine wpAny_isSubtype_exc hD ?_; rw [hcB]) | (with_reducible refine wpAny_isSubtype_exc hC ?_; rw [hcB']) | with_reducible refine wpAny_loadPart_at hD4 ?_ | wp_step)
  exact raiseNew_from (s := ⟨_, g, d, tk, os⟩) hh hne he4 f4 (by simp) ha4 hda h2 hE
end
theorem FlyF.same {fl : Value} {H : Hp} {h0 h h' : Heap} {a C : Addr} (F : FlyF fl H h0 a C h) (k : ∀ b ob vs, h.get? b = some ob → ob.data = .fields vs → h'.get? b = some ob) : FlyF fl H h0 a C h' := by
  obtain ⟨⟨oe, vs, T, oT, ts, a0, t1, t2, t4, t3, t5, t7, t8, t9, t10, t11, t12⟩, n1, n2⟩ := F
  exact ⟨⟨oe, vs, T, oT, ts, a0, k _ _ _ t1 t4, t2, t4, t3, t5, t7, k _ _ _ t8 t9, t9, t10, t11, t12⟩, n1, n2⟩
section
variable {X : Cx} {pins : List (Addr × Obj)} {σ : St} {H : Hp} {s : Shared}
theorem var_at {i : Nat} {x : Str} {v : V} {pos : Pos} {A : Around} {E : Value → Shared → Prop} {Q : Value → Shared → Prop} (I : Inv X pins σ H s) (hN : X.N[i]? = some x) (hv : Vis X.env.scope x) (e : σ[i]? = some (some v)) (hQ : ∀ u, RelV v u → Q u s)
    (hd : (x == ("__debug__" : Str)) = false := by decide) (hcd : (x == ("__classdict__" : Str)) = false := by decide) : wpAny (model X.prog X.w) A (eval (.Name x pos) X.env) Q E s := by
  obtain ⟨m, hn, hl⟩ := I.loc
  obtain ⟨u, r, l⟩ := hl i x v hN e hv
  rcases l with ⟨hk, hm⟩ | ⟨hk, c, hc, hcell⟩
  · exact wpAny_Name (wpAny_loadName_local I.ok.kind hk hn hm (hQ u r)) hd
  · rcases hk with hk | hk
    · exact wpAny_Name (wpAny_loadName_cell I.ok.kind hk hc hcell (hQ u r)) hd
    · exact wpAny_Name (wpAny_loadName_free I.ok.kind hk hc hcell (hQ u r) hcd) hd
theorem note_new {M : Model} {A : Around} {E : Value → Shared → Prop} {Q : Unit → Shared → Prop} {e D : Addr} {oe : Obj} {vs : Array Value} {a0 : Value} {h0 : Heap} (I : Inv X pins σ H s) (o : Own X) (hfr : A.frames = some (X.env :: X.outer))
    (hs0 : ∀ b ob, X.s₀.heap.get? b = some ob → ∃ o2, h0.get? b = some o2) (h0s : ∀ b ob, h0.get? b = some ob → ∃ o2, s.heap.get? b = some o2) (hn : h0.get? e = none) (nH : H e = none) (np : ∀ p ∈ X.pn ++ pins, p.1 ≠ e)
    (he : s.heap.get? e = some oe) (hc : oe.cls = .ref D) (hd : oe.data = .fields vs) (v0 : vs[0]? = some a0) (v1 : vs[1]? = some .none)
    (hQ : ∀ h2, Inv X pins σ H { s with heap := h2 } → FlyF (rawInt X.env.locals) H h0 e D h2 → (∀ b ob, h0.get? b = some ob → ∃ o2, h2.get? b = some o2) → Q () { s with heap := h2 }) : wpAny M A (noteFrame (.ref e) X.env) Q E s := by
  have n0 : X.s₀.heap.get? e = none := by
    cases q : X.s₀.heap.get? e with
    | none => rfl
    | some ob =>
      obtain ⟨o2, e2⟩ := hs0 e ob q
      rw [hn] at e2; cases e2
  have hext : ∀ b ∈ [e], h0.get? b = none ∧ H b = none := fun b hb => by
    have z : b = e := by simpa using hb
    subst z
    exact ⟨hn, nH⟩
  unfold noteFrame
  simp only [o.fr]
  refine wpAny_bind (wpAny_field he hd v1 ?_)
  rw [if_neg (by decide)]
  refine wpAny_entryW hfr (hid_frames I o [e]) o.fr he (fun b ob q => PySem.W.of_hideAll _ q) (PySem.W.hideAll_none _ (by simp)) hd (Array.getElem?_eq_some_iff.mp v1).1 v0 fun h' hN => ?_
  rw [hc] at hN
  obtain ⟨_, _, fl⟩ := left_ok I o hs0 h0s hext (by simp) hN
  refine hQ h' (left_inv I o (fun b hb => ?_) (by simp) hN) fl fun b ob q => ?_
  · have z : b = e := by simpa using hb
    subst z
    exact ⟨n0, nH, np⟩
  · obtain ⟨o2, e2⟩ := h0s b ob q
    by_cases hbf : b ∈ frs X.stack
    · obtain ⟨_, o3, ho3, hd3⟩ := I.stack.mem hbf
      obtain ⟨sl, e4⟩ := hN.2.2.2 b o3 ho3 hd3
      exact ⟨_, e4⟩
    · refine ⟨o2, hN.1 b o2 (PySem.W.hideAll_get _ e2 fun z => (List.mem_append.mp z).elim hbf fun z => ?_)⟩
      rw [(hext b z).1] at q; cases q
theorem mark_ok {fl : Value} {e D : Addr} {h0 : Heap} (I : Inv X pins σ H s) (o : Own X) (F : FlyF fl H h0 e D s.heap) (hnew : ∀ b : Addr, h0.get? b = none → X.s₀.heap.get? b = none ∧ ∀ p ∈ X.pn ++ pins, p.1 ≠ b) :
    ∃ (oe : Obj) (vs : Array Value) (T : Addr) (oT : Obj) (ts : Array Value) (a0 : Value), s.heap.get? e = some oe ∧ oe.cls = .ref D ∧ oe.data = .fields vs ∧ vs[0]? = some a0 ∧ vs[1]? = some (.ref T) ∧ T ≠ e ∧ s.heap.get? T = some oT ∧ oT.data = .fields ts ∧ ts[3]? = some fl ∧ h0.get? T = none ∧ H T = none ∧
      ∀ v : Value, Inv X pins σ H { s with heap := s.heap.update T (Obj.mapFields (·.setIfInBounds 3 v)) } ∧ FlyF v H h0 e D (s.heap.update T (Obj.mapFields (·.setIfInBounds 3 v))) := by
  obtain ⟨⟨oe, vs, T, oT, ts, a0, t1, t2, t4, t3, t5, t7, t8, t9, t10, t11, t12⟩, n1, n2⟩ := F
  refine ⟨oe, vs, T, oT, ts, a0, t1, t2, t4, t3, t5, t7, t8, t9, t10, t11, t12, fun v => ?_⟩
  have h3 : 3 < ts.size := (Array.getElem?_eq_some_iff.mp t10).1
  have d' := Obj.data_mapFields t9 (·.setIfInBounds 3 v)
  have u8 := Heap.get?_update_self (Obj.mapFields (·.setIfInBounds 3 v)) t8 (Obj.isFreed_of_fields d')
  have oth : ∀ b, b ≠ T → (s.heap.update T (Obj.mapFields (·.setIfInBounds 3 v))).get? b = s.heap.get? b := fun b hb => Heap.get?_update_other _ _ (Ne.symm hb)
  have v10 : (ts.setIfInBounds 3 v)[3]? = some v := by rw [Array.getElem?_setIfInBounds_self_of_lt h3]
  have noT : ∀ b ob, s.heap.get? b = some ob → (∀ vs, ob.data ≠ .fields vs) → b ≠ T := fun b ob q hnf z => by
    rw [z, t8] at q; cases q; exact hnf ts t9
  have hext : ∀ b ∈ [e, T], X.s₀.heap.get? b = none ∧ H b = none ∧ ∀ p ∈ X.pn ++ pins, p.1 ≠ b := fun b hb => by
    rcases List.mem_cons.mp hb with rfl | hb
    · exact ⟨(hnew _ n1).1, n2, (hnew _ n1).2⟩
    · have z : b = T := by simpa using hb
      subst z
      exact ⟨(hnew _ t11).1, t12, (hnew _ t11).2⟩
  have hid : (PySem.W.hideAll s.heap (frs X.stack ++ [e, T])).get? T = none := PySem.W.hideAll_none _ (by simp)
  exact ⟨left_inv (ext := [e, T]) (e := e) (C := D) (a0 := a0) (fl := v) I o hext (by simp) ⟨fun b ob q => (oth b fun z => by rw [z, hid] at q; cases q).trans (PySem.W.of_hideAll _ q), (hid_frames I o [e, T]).of_keeps fun b ob q hnf => ⟨ob, (oth b (noT b ob q hnf)).trans q, rfl⟩,
    ⟨oe, vs, T, _, _, (oth e (Ne.symm t7)).trans t1, ⟨t2, t3⟩, t4, t5, hid, t7, u8, d', v10⟩, fun b ob q hnf => ⟨ob.slots, (oth b (noT b ob q hnf)).trans q⟩⟩,
    ⟨⟨oe, vs, T, _, _, a0, (oth e (Ne.symm t7)).trans t1, t2, t4, t3, t5, t7, u8, d', v10, t11, t12⟩, n1, n2⟩⟩
theorem fly_mark {M : Model} {A : Around} {E : Value → Shared → Prop} {Q : Unit → Shared → Prop} {fl : Value} {e D : Addr} {h0 : Heap} {f : Option Addr} (I : Inv X pins σ H s) (o : Own X) (F : FlyF fl H h0 e D s.heap)
    (hnew : ∀ b : Addr, h0.get? b = none → X.s₀.heap.get? b = none ∧ ∀ p ∈ X.pn ++ pins, p.1 ≠ b)
    (hQ : ∀ h2, Inv X pins σ H { s with heap := h2 } → FlyF (f.elim Value.none fun f => rawInt f) H h0 e D h2 → Q () { s with heap := h2 }) : wpAny M A (setFlight (.ref e) f) Q E s := by
  obtain ⟨oe, vs, T, oT, ts, a0, t1, t2, t4, t3, t5, t7, t8, t9, t10, t11, t12, go⟩ := mark_ok I o F hnew
  unfold setFlight
  refine wpAny_bind (wpAny_field t1 t4 t5 ?_)
  rw [if_pos (show (Value.ref T != Value.none) = true by simp)]
  obtain ⟨g1, g2⟩ := go (f.elim Value.none fun f => rawInt f)
  exact wpAny_setField t8 t9 (Array.getElem?_eq_some_iff.mp t10).1 (hQ _ g1 g2)
theorem leave_marked {M : Model} {E : Value → Shared → Prop} {Q : Unit → Shared → Prop} {e D : Addr} {h0 : Heap} (I : Inv X pins σ H s) (o : Own X) (F : FlyF (rawInt X.env.locals) H h0 e D s.heap) (hs0 : ∀ b ob, X.s₀.heap.get? b = some ob → ∃ o2, h0.get? b = some o2)
    (hQ : ∀ h2, Un X.fs [] X.H₀ H X.s₀.heap h2 → HOk X.prog X.w H h2 → FlyAt H X.s₀.heap e D h2 → Q () { s with heap := h2 }) : wpAny M X.A (leaving X.env (.ref e)) Q E s := by
  obtain ⟨⟨oe, vs, T, oT, ts, a0, t1, t2, t4, t3, t5, t7, t8, t9, t10, t11, t12⟩, n1, n2⟩ := F
  have up : ∀ {b : Addr}, h0.get? b = none → X.s₀.heap.get? b = none := fun {b} z => by
    cases q : X.s₀.heap.get? b with
    | none => rfl
    | some ob =>
      obtain ⟨o2, e2⟩ := hs0 b ob q
      rw [z] at e2; cases e2
  have hext : ∀ b ∈ [e, T], X.s₀.heap.get? b = none ∧ H b = none := fun b hb => by
    rcases List.mem_cons.mp hb with rfl | hb
    · exact ⟨up n1, n2⟩
    · have z : b = T := by simpa using hb
      subst z
      exact ⟨up t11, t12⟩
  unfold leaving noteFrame
  simp only [o.fr]
  refine wpAny_bind (wpAny_bind (wpAny_field t1 t4 t5 ?_))
  rw [if_pos (show (Value.ref T != Value.none) = true by simp)]
  refine wpAny_bind (wpAny_field t8 t9 t10 ?_)
  rw [if_pos (show (rawInt X.env.locals == rawInt X.env.locals) = true by simp)]
  refine wpAny_pure ?_
  refine wpAny_setFlight_noneW (base := PySem.W.hideAll s.heap (frs X.stack ++ [e, T])) (l := X.env :: X.outer) (cls := .ref D) (a0 := a0) (fl := rawInt X.env.locals) (fun b ob q => PySem.W.of_hideAll _ q) (hid_frames I o [e, T])
    ⟨oe, vs, T, oT, ts, t1, ⟨t2, t3⟩, t4, t5, PySem.W.hideAll_none _ (by simp), t7, t8, t9, t10⟩ fun h2 r1 r2 r3 r4 => ?_
  obtain ⟨a1, a2, a3⟩ := left_ok (fl := .none) I o (fun b ob q => ⟨ob, q⟩) (o.up I) hext (by simp) ⟨r1, r2, r3, fun b ob q hnf => ⟨ob.slots, r4 b ob q hnf⟩⟩
  exact hQ h2 a1 a2 a3
def Leaves (X : Cx) (E : XK) : Prop := ∀ (e : Addr) (s : Shared), wpAny (model X.prog X.w) X.A (leaving X.env (.ref e)) (fun _ s' => ∃ (C : Addr) (m : Option Addr) (H' : Hp), s'.os = X.s₀.os ∧ AllBare s'.gens ∧ Un X.fs [] X.H₀ H' X.s₀.heap s'.heap ∧ HOk X.prog X.w H' s'.heap ∧ FlyAt H' X.s₀.heap e C s'.heap ∧ (m = none → F2 e .none s'.heap) ∧ E (.ref C) m H') (fun _ _ => False) s → X.xe (.ref e) s
def excC (a C : Addr) : HO := .ext fun h => ∃ (oe : Obj) (vs : Array Value), h.get? a = some oe ∧ oe.cls = Value.ref C ∧ oe.data = .fields vs ∧ vs[2]? = some .none
def tTryR (L : Addr) (K : PySem.W.Frag) (i : Nat) (tc : XK → TE) (kt : St → V → St) (Dc : Addr) (E' : XK) (t : TA) : TS := fun D σ H => ∃ E : XK, tc E σ H (fun v H1 => D.nx (kt σ v) H1) ∧ ∀ C m H1, E (.ref C) m H1 →
  m = none ∧ (∃ bm newId, PySem.W.excIn K C bm newId = true ∧ bm.contains (.type "BaseException") = true) ∧ PySem.W.mroIn K C (.ref L) = some true ∧
  ∀ a H2, Same H1 H2 → t (σ.set i (some (.ref a))) H2 fun vs H3 => vs.length ≤ sizeLine ∧ Same H2 H3 ∧ E' (.ref Dc) (some a) H3
end
section
variable {X : Cx}
theorem ps_tryR {x n : Str} {i : Nat} {L : Addr} {st : Stmt} {tc : XK → TE} {kt : St → V → St} {np hpos pos : Pos} {bmL : List Value} {newL : String} {dx : Str} {Dc : Addr} {E' : XK} {B newId initId : String} {bm : List Value} {e0 : Expr} {rest : List Expr} {t : TA} {dp cpos np2 rpos : Pos} (o : Own X) (hc : X.calm = true) (hg : Gl X x) (hm : X.mg x = some (.ref L))
    (hq : PySem.W.excIn X.K L bmL newL = true) (hbL : bmL.contains (.type "BaseException") = true) (hN : X.N.Nodup) (hi : X.N[i]? = some n) (hl : X.env.scope.names.lookup n = some .local)
    (hb : ∀ (pins : List (Addr × Obj)) (s : Shared) (σ : St) (H : Hp) (D : Ends) (E : XK) (err : Value → Shared → Prop), Inv X pins σ H s → tc E σ H (fun v H1 => D.nx (kt σ v) H1) → (∀ H1 s1 ev s2, Inv X pins σ H1 s1 → CXF X.prog X.w X.stack H1 s1 E ev s2 → err ev s2) → wpAny (model X.prog X.w) X.A (exec st X.env) (SP X pins D) err s)
    (hgD : Gl X dx) (hmD : X.mg dx = some (.ref Dc)) (hqD : PySem.W.excIn X.K Dc bm newId = true) (FB : ExcBaseFacts B newId initId bm)
    (ha : ∀ v : Value, PA (X.hs v) (e0 :: rest) t) (hL : Leaves X E') (hP : ∀ hd, PassesOwnAt (model X.prog X.w) (X.A.mark hd) X.A X.env X.xe)
    (he : starEach (e0 :: rest) X.env = (false, eval e0 X.env) :: starEach rest X.env := by rfl) (hpl : (backTo cpos (starEach rest X.env)).any (·.1) = false := by rfl)
    (hd : (x == ("__debug__" : Str)) = false := by decide) (hd2 : (dx == ("__debug__" : Str)) = false := by decide) (hd3 : (n == ("__debug__" : Str)) = false := by decide) (hd4 : (n == ("__classdict__" : Str)) = false := by decide) :
    PS X (.Try [st] [.ExceptHandler (some (.Name x np)) (some n) [.Raise (some (.Call (.Name dx dp) (e0 :: rest) [] cpos)) (some (.Name n np2)) rpos] hpos] [] [] pos) (tTryR L X.K i tc kt Dc E' t) := by
  intro pins s σ H D I h
  obtain ⟨E, hbody, hcatch⟩ := h
  refine wpAny_Try_except (wpAny_execs_cons (wpAny_mono (hb pins s σ H D E _ I hbody fun H1 s1 ev s2 I0 hx => ?_) (fun f s1 q => ?_) fun _ _ z => z))
  · refine catch_core (pins := pins) o hc hg hm hq hbL I0 hx (fun C m H2 hE => ⟨?_, (hcatch C m H2 hE).2.2.1⟩) (fun a C m H2 h5 hE I5 fl5 f5 new_ne _ => ?_) hd
    · obtain ⟨_, ⟨bmC, nC, z, _⟩, _⟩ := hcatch C m H2 hE
      exact ⟨bmC, nC, z⟩
    obtain ⟨hm0, ⟨bmC, newC, hqC, hbC⟩, _, hth⟩ := hcatch C m H2 hE
    obtain ⟨oF, vF, w1, w2, w3⟩ := f5 hm0
    obtain ⟨oe5, vs5, T5, oT5, ts5, a05, v1, v2, v4, _⟩ := fl5.ex
    rw [v1] at w1
    cases w1
    obtain ⟨ne1, ne2, ne3, ne4⟩ := new_ne a fl5.new
    have I6 : Inv X pins σ (upd H2 a (excC a C)) { s2 with heap := h5 } := I5.track fl5.nt ne4 ne1 ne2 ne3
      ⟨⟨oF, vF, v1, v2, w2, w3⟩, ⟨oF, v1⟩, fun k1 k2 ⟨ox, vx, y1, y2, y3, y4⟩ kk => ⟨ox, vx, kk _ y1, y2, y3, y4⟩⟩
    have S0 : Same H2 (upd H2 a (excC a C)) := fun b u q => by rw [upd_ne fun z => by rw [z, fl5.nt] at q; cases q]; exact q
    refine store_ok (X := X.hs (.ref a)) (v := .ref a) I6.hs hN hi (.inl hl) rfl (fun s8 I8 => ?_) (.inr hl)
    have hdX : X.calm = true → X.A.handled = none := I.ok.hd
    refine wpAny_execs_cons ?_
    rw [arm_exec_Raise]
    obtain ⟨tlD, ND, nmD, qnD, bsD, hdD, snD, subD, abD, colD, ddD, k0, k1, k2, k3, k5, mND, hDK, hND, hniD, TD⟩ := excIn_obj I8.mod.kin hqD
    obtain ⟨tlC, NC, nmC, qnC, bsC, hdC, snC, subC, abC, colC, ddC, c0, c1, c2, c3, c5, mNC, hCK, hNC, hniC, TC⟩ := excIn_obj I8.mod.kin hqC
    have hDm := I8.mod.kin _ _ hDK
    have hCm := I8.mod.kin _ _ hCK
    show wpAny _ _ (do standAt rpos; raiseStmt X.env (some (do let v ← eval (.Call (.Name dx dp) (e0 :: rest) [] cpos) X.env; standAt rpos; pure v)) (some (do let v ← eval (.Name n np2) X.env; standAt rpos; pure v))) _ _ _
    refine wpAny_bind (wpAny_standAt (raiseStmt_from (a := a) (D := Dc) (nm := nmD) (q := qnD) (N := ND) (bs := bsD) (hdct := hdD) (sn := snD) (sub := subD) (ab := abD) (col := colD) (dd := ddD) (k0 := k0) (k1 := k1) (k2 := k2) (k3 := k3) (k5 := k5) (newId := newId) (C := C) (nm' := nmC) (q' := qnC) (N' := NC) (bs' := bsC) (hdct' := hdC) (sn' := snC) (sub' := subC) (ab' := abC) (col' := colC) (dd' := ddC) (l0 := c0) (l1 := c1) (l2 := c2) (l3 := c3) (l5 := c5) (newId' := newC) rfl (TD.hasType FB.hasBase) (TC.hasType hbC) ?_))
    refine wpAny_bind ?_
    refine wpAny_Call_ofName (ld_glob I8 hgD hmD ?_ hd2)
    unfold callWith
    have hplain : (backTo cpos (starEach (e0 :: rest) X.env)).any (·.1) = false := by
      rw [he]
      show (false || (backTo cpos (starEach rest X.env)).any (·.1)) = false
      rw [hpl]
      rfl
    have ha2 := ha (.ref a) cpos pins s8 _ _ _ I8 (hth a (upd H2 a (excC a C)) S0)
    rw [he] at ha2
    have hargs : ∀ {Z : Args → Shared → Prop} {W : Value → Shared → Prop}, (∀ us s9 vs H9, Inv (X.hs (.ref a)) pins (σ.set i (some (.ref a))) H9 s9 → Vals vs us → vs.length ≤ sizeLine → Same (upd H2 a (excC a C)) H9 → E' (.ref Dc) (some a) H9 → Z ⟨us, []⟩ s9) →
        wpAny (model X.prog X.w) (X.A.mark (some (.ref a))) (evalArgs (Value.ref Dc) true (backTo cpos (starEach (e0 :: rest) X.env)) (backToKw cpos (keywordEach [] X.env))) Z W s8 := fun {Z W} z => by
      rw [he]
      exact Calls.evalArgs_plain (wpAny_mono ha2 (fun us s1 ⟨vs, H9, I9, r9, z9, e9, q9⟩ => z us s1 vs H9 I9 r9 z9 e9 q9) fun _ _ z => False.elim z)
    refine wpAny_bind (wpAny_holding (hargs fun us s9 vs H9 I9 r9 z9 e9 q9 => wpAny_bind (wpAny_standAt ?_)))
    have hDm9 := I9.bk _ _ hDm
    have hCm9 := I9.bk _ _ hCm
    have hN9 := hND.keeps I9.bk
    have TD9 := TD.keeps I9.bk
    obtain ⟨hp9, g9, d9, tk9, os9⟩ := s9
    simp only [hplain]
    refine wpAny_bind (wpAny_keeperOf_exc hDm9 ?_)
    refine wpAny_bind (wpAny_call_exc_subT (hrest := by rw [List.nil_append, ← r9.length]; exact z9) FB TD9 hDm9 hN9 hniD fun h10 e hm10 => wpAny_bind (wpAny_holding (wpAny_point (wpAny_pure ?_))))
    refine wpAny_bind (wpAny_standAt (wpAny_pure ?_))
    obtain ⟨⟨oa, va, x1, x2, x3, x4⟩, _⟩ := I9.hok a _ (e9 _ _ upd_same)
    obtain ⟨t10, ht10, _, _⟩ := hm10.there
    have hae : a ≠ e := fun z => by rw [z, hm10.new] at x1; cases x1
    have hiσ : i < σ.length := by rw [I.len]; exact (List.getElem?_eq_some_iff.mp hi).1
    have I10 : Inv (X.hs (.ref a)) pins (σ.set i (some (.ref a))) H9 ⟨h10, g9, d9, tk9, os9⟩ := I9.kept (t' := tk9) hm10.keeps
    refine ⟨e, t10, rfl, wpAny_bind (var_at (X := X.hs (.ref a)) I10 hi (.inl hl) (by rw [List.getElem?_set_self hiσ]) (fun u ru => ?_) hd3 hd4)⟩
    cases ru
    refine wpAny_bind (wpAny_standAt (wpAny_pure ⟨rfl, hae, hm10.keeps _ _ hDm9, ht10, hm10.keeps _ _ hCm9, ⟨oa, va, hm10.keeps _ _ x1, x2, x3, x4⟩, ?_⟩))
    -- behind the raise
    have oth : ∀ b, b ≠ e → (fromH h10 e a).get? b = h10.get? b := fun b hb => by
      unfold fromH
      rw [Heap.get?_update_other _ _ (Ne.symm hb), Heap.get?_update_other _ _ (Ne.symm hb), Heap.get?_update_other _ _ (Ne.symm hb)]
    have g3 := Obj.data_mapFields (o := { cls := .ref Dc, data := .fields #[.ref t10, .none, .none, .none, .bool false, .none] }) rfl (·.setIfInBounds 3 (Value.ref a))
    have g4 := Obj.data_mapFields g3 (·.setIfInBounds 4 (Value.bool true))
    have g5 := Obj.data_mapFields g4 (·.setIfInBounds 2 (Value.ref a))
    have he11 : (fromH h10 e a).get? e = some _ := Heap.get?_update_self (Obj.mapFields (·.setIfInBounds 2 (Value.ref a))) (Heap.get?_update_self (Obj.mapFields (·.setIfInBounds 4 (Value.bool true))) (Heap.get?_update_self (Obj.mapFields (·.setIfInBounds 3 (Value.ref a))) ht10 (Obj.isFreed_of_fields g3)) (Obj.isFreed_of_fields g4)) (Obj.isFreed_of_fields g5)
    have keep9 : ∀ b ob, hp9.get? b = some ob → (fromH h10 e a).get? b = some ob := fun b ob q => (oth b fun z => by rw [z, hm10.new] at q; cases q).trans (hm10.keeps b ob q)
    have IX : Inv X pins (σ.set i (some (.ref a))) H9 ⟨fromH h10 e a, g9, d9, tk9, os9⟩ := (I9.kept (t' := tk9) keep9).unhs hdX
    have I9X := I9.unhs hdX
    have hs0 : ∀ b ob, X.s₀.heap.get? b = some ob → ∃ o2, hp9.get? b = some o2 := o.up I9X
    have nH : H9 e = none := by
      cases q : H9 e with
      | none => rfl
      | some u =>
        obtain ⟨ob, e2⟩ := (I9.hok e u q).there
        have := hm10.new
        rw [show hp9.get? e = some ob from e2] at this; cases this
    have nonew : ∀ b : Addr, hp9.get? b = none → X.s₀.heap.get? b = none ∧ ∀ p ∈ X.pn ++ pins, p.1 ≠ b := fun b z => by
      refine ⟨?_, fun p hp q => ?_⟩
      · cases q : X.s₀.heap.get? b with
        | none => rfl
        | some ob =>
          obtain ⟨o2, e2⟩ := hs0 b ob q
          rw [z] at e2; cases e2
      · have e1 := (I9X.pin p hp).1
        rw [q] at e1
        rw [show hp9.get? b = some p.2 from e1] at z; cases z
    have hfr : (X.A.mark (some (.ref a))).frames = some (X.env :: X.outer) := by
      have := I9.ok.frames
      rw [show (X.hs (.ref a)).stack = X.env :: X.outer from o.st] at this
      exact this
    refine note_new (h0 := hp9) (D := Dc) IX o hfr hs0 (fun b ob q => ⟨ob, keep9 b ob q⟩) hm10.new nH (nonew e hm10.new).2 he11 (by simp [Obj.cls_mapFields]) g5 (a0 := .ref t10) (by simp) (by simp) fun h12 I12 F12 up12 => ?_
    have notL : ∀ {h : Heap} {tk : Nat} {b : Addr} {ob : Obj} {vs : Array Value}, Inv X pins (σ.set i (some (.ref a))) H9 ⟨h, g9, d9, tk, os9⟩ → h.get? b = some ob → ob.data = .fields vs → b ≠ X.env.locals := fun {h tk b ob vs} J q d z => by
      obtain ⟨m, ⟨ol, es, ep, hol, hdl, _⟩, _⟩ := J.loc
      rw [← z] at hol
      rw [show h.get? b = some ol from hol] at q
      cases q
      rw [hdl] at d; cases d
    refine name_goesS I12 hN hi hl fun h13 sb I13 => ?_
    have F13 := F12.same (h' := h13) fun b ob vs q d => (sb.2 b (notL I12 q d)).trans q
    unfold PySem.passOn
    obtain ⟨⟨oe, vse, T, oT, tse, a0, t1, t2, t4, t3, t5, t7, t8, t9, t10', t11, t12⟩, m1, m2⟩ := id F13
    refine wpAny_bind (wpAny_field (s := ⟨h13, g9, d9, tk9 + 1, os9⟩) t1 t4 t5 ?_)
    rw [if_neg (show ¬ (Value.ref T == Value.none) = true by simp), o.fr]
    refine wpAny_bind (fly_mark (s := ⟨h13, g9, d9, tk9 + 1, os9⟩) I13 o F13 nonew fun h14 I14 F14 => wpAny_throw (hP (some (.ref a)) (.ref e) ⟨h14, g9, d9, tk9 + 1, os9⟩ (hL e _ ?_)))
    exact leave_marked I14 o F14 hs0 fun h15 u ok fl => ⟨Dc, some a, H9, I14.os, I14.bare, u, ok, fl, (fun z => nomatch z), q9⟩
  · cases f with
    | next => exact wpAny_execs_nil (wpAny_execs_nil q)
    | brk => exact q
    | cont => exact q
    | ret u => exact q
end
end L2
set_option Elab.async false
set_option linter.all false
set_option maxRecDepth 100000
set_option maxHeartbeats 4000000
namespace L2
open PySem PySem.Spec PyProof.Rows
section
variable {P : Program} {w : World} {K : PySem.W.Frag} {mg : Str → Option Value} {base : Heap} {N : List Str} {qual : Str} {scope : Scope} {f : Addr} {cd : Value} {A : Around} {outer : List Env} {s : Shared} {H : Hp} {E : XK}
theorem leaves_cx : Leaves (cxF P w K mg base N qual scope f cd A outer s H E) E := fun e s' h =>
  wpAny_mono h (fun _ s2 ⟨C, m, H', a1, a2, a3, a4, a5, a6, a7⟩ => ⟨e, C, m, H', rfl, a1, a2, a3, a4, a5, a6, a7⟩) fun _ _ z => False.elim z
theorem passesAt_cx (hd : Option Value) : PassesOwnAt (model P w) ((cxF P w K mg base N qual scope f cd A outer s H E).A.mark hd) (cxF P w K mg base N qual scope f cd A outer s H E).A (cxF P w K mg base N qual scope f cd A outer s H E).env (cxF P w K mg base N qual scope f cd A outer s H E).xe :=
  PassesOwnAt.leaving (Q₁ := fun e s'' => CXF P w outer H s E e s'') (E₁ := fun e s'' => CXF P w outer H s E e s'')
end
section
variable {X : Cx} {pins : List (Addr × Obj)} {σ : St} {H : Hp} {s : Shared}
theorem leave_any {M : Model} {E : Value → Shared → Prop} {Q : Unit → Shared → Prop} {fl : Value} {e D : Addr} {h0 : Heap} (I : Inv X pins σ H s) (o : Own X) (F : FlyF fl H h0 e D s.heap) (hs0 : ∀ b ob, X.s₀.heap.get? b = some ob → ∃ o2, h0.get? b = some o2)
    (hnew : ∀ b : Addr, h0.get? b = none → X.s₀.heap.get? b = none ∧ ∀ p ∈ X.pn ++ pins, p.1 ≠ b)
    (hQ : ∀ h2, Un X.fs [] X.H₀ H X.s₀.heap h2 → HOk X.prog X.w H h2 → FlyAt H X.s₀.heap e D h2 → Q () { s with heap := h2 }) : wpAny M X.A (leaving X.env (.ref e)) Q E s := by
  by_cases hfl : fl = rawInt X.env.locals
  · subst hfl
    exact leave_marked I o F hs0 hQ
  · obtain ⟨oe, vs, T, oT, ts, a0, t1, t2, t4, t3, t5, t7, t8, t9, t10, t11, t12, go⟩ := mark_ok I o F hnew
    obtain ⟨I', F'⟩ := go .none
    have h3 : 3 < ts.size := (Array.getElem?_eq_some_iff.mp t10).1
    have he' : (s.heap.update T (Obj.mapFields (·.setIfInBounds 3 Value.none))).get? e = some oe := (Heap.get?_update_other _ _ t7).trans t1
    have hext : ∀ b ∈ [e, T], X.s₀.heap.get? b = none ∧ H b = none := fun b hb => by
      rcases List.mem_cons.mp hb with rfl | hb
      · exact ⟨(hnew _ F.new).1, F.nt⟩
      · have z : b = T := by simpa using hb
        subst z
        exact ⟨(hnew _ t11).1, t12⟩
    unfold leaving noteFrame
    simp only [o.fr]
    refine wpAny_bind (wpAny_bind (wpAny_field t1 t4 t5 ?_))
    rw [if_pos (show (Value.ref T != Value.none) = true by simp)]
    refine wpAny_bind (wpAny_field t8 t9 t10 ?_)
    rw [if_neg (show ¬ (fl == rawInt X.env.locals) = true from fun z => hfl (eq_of_beq z))]
    refine wpAny_bind (wpAny_setField t8 t9 h3 ?_)
    refine wpAny_newEntryW (s := { s with heap := s.heap.update T (Obj.mapFields (·.setIfInBounds 3 Value.none)) }) (base := PySem.W.hideAll (s.heap.update T (Obj.mapFields (·.setIfInBounds 3 Value.none))) (frs X.stack ++ [e, T])) (outer := X.outer) (by rw [I.ok.frames, o.st]) (hid_frames I' o [e, T]) o.fr he'
      (fun b ob q => PySem.W.of_hideAll _ q) (PySem.W.hideAll_none _ (by simp)) t4 (Array.getElem?_eq_some_iff.mp t5).1 t3 fun h2 hL => ?_
    rw [t2] at hL
    obtain ⟨a1, a2, a3⟩ := left_ok (fl := .none) I' o (fun b ob q => ⟨ob, q⟩) (o.up I') hext (by simp) hL
    exact hQ h2 a1 a2 a3
end
section
variable {prog : Program} {w : World} {A : Around} {R : Result → Shared → Prop} {s : Shared}
theorem compLoop_err {elt tg iter : Expr} {ifs : List Expr} {scope : Scope} {pos : Pos} {it acc : Value} {env : Env} (I : Nat → Shared → Prop)
    (turn : ∀ n s, I n s → wpAny (model prog w) A (pyNext it) (fun r s₁ => match r with
      | none => R (.ok .next) s₁
      | some v => wpAny (model prog w) A (letOwnedTupleGo tg it v) (fun _ t₁ => wpAny (model prog w) A (assign tg env v) (fun _ s₂ =>
          wpAny (model prog w) A (forIn ifs true fun c r => if r = true then do let ok ← isTrue c env (eval c env); pure (ForInStep.yield ok) else pure (ForInStep.yield r)) (fun ok s₃ =>
            if ok = true then wpAny (model prog w) A (eval elt env) (fun x s₄ => wpAny (model prog w) A (call (.builtin "list.append") [acc, x]) (fun _ s₅ => ∃ m, m < n ∧ I m s₅) (fun _ _ => False) s₄) (notedBy (model prog w) A env fun x s' => R (.error x) s') s₃
            else ∃ m, m < n ∧ I m s₃) (fun _ _ => False) s₂) (fun _ _ => False) t₁) (fun _ _ => False) s₁) (fun _ _ => False) s)
    (n : Nat) (h : I n s) : codeAny (model prog w) A (.compLoop (.ListComp elt [⟨tg, iter, ifs, 0⟩] scope pos) 0 it acc env) R s := by
  refine codeAny_loop rfl I (fun n s hI => ?_) n h
  show wpAny _ A ((compTurn (.ListComp elt [⟨tg, iter, ifs, 0⟩] scope pos) 0 it acc env).onRaise (fun x => do noteFrame x env; theTreesLotGoes x)) _ _ s
  refine wpAny_noted ?_
  rw [compTurn_list]
  have no : ∀ (E : Value → Shared → Prop) (e : Value) (s : Shared), False → E e s := fun _ _ _ z => z.elim
  refine wpAny_bind (wpAny_standAt (wpAny_bind (wpAny_mono (turn n s hI) (fun r s₁ h₁ => ?_) (no _))))
  cases r with
  | none => exact wpAny_pure h₁
  | some v =>
    refine wpAny_bind (wpAny_mono h₁ (fun _ t₁ h₂ => ?_) (no _))
    refine wpAny_bind (wpAny_mono h₂ (fun _ s₂ h₃ => wpAny_bind (wpAny_mono h₃ (fun ok s₃ h₄ => ?_) (no _))) (no _))
    cases ok with
    | false => exact wpAny_pure ⟨rfl, h₄⟩
    | true => exact wpAny_bind (wpAny_bind (wpAny_mono h₄ (fun x s₄ h₅ => wpAny_bind (wpAny_mono h₅ (fun _ s₅ h₆ => wpAny_pure (wpAny_pure ⟨rfl, h₆⟩)) (no _))) fun _ _ z => z))
end
section
variable {X : Cx} {pins : List (Addr × Obj)} {σ : St} {H : Hp} {s : Shared} {N : List Str} {js : List (Option Nat)} {scope : Scope} {cl : List (Str × Addr)}
theorem comp_err {C : Addr} {fp : List Addr} {s3 : Shared} {Hb : Hp} {E' : XK} {pins' : List (Addr × Obj)} {σ' : St} {H1 : Hp} {s1 s2 : Shared} {ev : Value} (o : Own X) (hL : Leaves X E') (I3 : Inv X pins σ Hb s3) (hfp3 : ∀ b ∈ fp, FpOk X pins Hb b) (hCe : s3.heap.objs.size = C)
    (J1 : Inv (cxC X N scope cl C s3 Hb fp) pins' σ' H1 s1) (hx : CXF X.prog X.w X.stack H1 s1 E' ev s2) :
    notedBy (model X.prog X.w) X.A (compEnvC scope cl C X.env) (fun x s' => ∃ m, s'.heap.Ns C m ∧ ∀ h', Heap.SameBut C s'.heap h' → ∀ cenv : Env, cenv.locals = C → wpAny (model X.prog X.w) X.A (PySem.passOn "comprehension.variables-let-go" x cenv : Sem Value) (fun _ _ => False) X.xe { s' with heap := h' }) ev s2 := by
  obtain ⟨a, Cc, m, H2, rfl, os, bare, un, ok, fl, hF, hE⟩ := hx
  have J2 : Inv (cxC X N scope cl C s3 Hb fp) pins' σ' H2 s2 := J1.call' os un ok bare (fun b z => absurd z (by simp))
  have IX1 : Inv X pins σ H1 s1 := comp_end I3 hfp3 J1
  have IX2 : Inv X pins σ H2 s2 := comp_end I3 hfp3 J2
  have hs0 : ∀ b ob, X.s₀.heap.get? b = some ob → ∃ o2, s1.heap.get? b = some o2 := o.up IX1
  have nonew : ∀ b : Addr, s1.heap.get? b = none → X.s₀.heap.get? b = none ∧ ∀ p ∈ X.pn ++ pins, p.1 ≠ b := fun b z => by
    refine ⟨?_, fun p hp q => ?_⟩
    · cases q : X.s₀.heap.get? b with
      | none => rfl
      | some ob =>
        obtain ⟨o2, e2⟩ := hs0 b ob q
        rw [z] at e2; cases e2
    · have e1 := (IX1.pin p hp).1
      rw [q] at e1
      rw [e1] at z; cases z
  have h01 : ∀ b ob, s1.heap.get? b = some ob → ∃ o2, s2.heap.get? b = some o2 := fun b ob q => un.there b ob q (by simp)
  obtain ⟨oe, vs, T, oT, ts, a0, t1, t2, t4, t3, t5, t7, t8, t9, t10, t11, t12⟩ := fl.ex
  have hext : ∀ b ∈ [a, T], s1.heap.get? b = none ∧ H2 b = none := fun b hb' => by
    rcases List.mem_cons.mp hb' with rfl | hb'
    · exact ⟨fl.new, fl.nt⟩
    · have z : b = T := by simpa using hb'
      subst z
      exact ⟨t11, t12⟩
  have hfr : X.A.frames = some (X.env :: X.outer) := by rw [I3.ok.frames, o.st]
  show wpAny (model X.prog X.w) X.A (noteFrame (.ref a) X.env) _ _ s2
  refine thn ((kf_noteFrame (.ref a) X.env).anyIf hF (wpAny_noteFrame_onW (base := PySem.W.hideAll s2.heap (frs X.stack ++ [a, T])) (cls := .ref Cc) (a0 := a0) (outer := X.outer) (Q := fun _ s' => ∃ h3, s' = { s2 with heap := h3 } ∧ Heap.NotedW (PySem.W.hideAll s2.heap (frs X.stack ++ [a, T])) (X.env :: X.outer) a (.ref Cc) a0 (rawInt X.env.locals) s2.heap h3) hfr (hid_frames IX2 o [a, T]) o.fr
    ⟨oe, vs, T, oT, ts, t1, ⟨t2, t3⟩, t4, t5, PySem.W.hideAll_none _ (by simp), t7, t8, t9, t10⟩ (fun b ob q => PySem.W.of_hideAll _ q) (PySem.W.hideAll_none _ (by simp)) fun h3 hN3 => ⟨h3, rfl, hN3⟩)) fun _ s4 ⟨⟨h3, e3, hN3⟩, f3⟩ => ?_
  subst e3
  have I3' : Inv X pins σ H2 { s2 with heap := h3 } := left_inv IX2 o (fun b hb => ⟨(nonew b (hext b hb).1).1, (hext b hb).2, (nonew b (hext b hb).1).2⟩) (by simp) hN3
  obtain ⟨_, _, F3⟩ := left_ok IX2 o hs0 h01 hext (by simp) hN3
  obtain ⟨mC, nsC, _⟩ := id J2.loc
  have ns3 : h3.Ns C mC := Heap.UpToSlots.ns hN3.2.2.2 nsC
  refine ⟨mC, ns3, fun h' sb cenv _ => ?_⟩
  have hC : H2 C = none := J2.free
  have nC : ∀ {b : Addr} {ob : Obj} {vs : Array Value}, h3.get? b = some ob → ob.data = .fields vs → b ≠ C := fun {b ob vs} q d z => by
    obtain ⟨ol, es, ep, hol, hdl, _⟩ := ns3
    rw [z, hol] at q
    cases q
    rw [hdl] at d; cases d
  have I4 : Inv X pins σ H2 { s2 with heap := h' } := by
    refine I3'.turned (t' := s2.toks) (fun b ob hb q => (sb.2 b hb).trans q) hC ?_ (.inr ?_) ?_ ?_
    · have := I3.lt; rw [hCe] at this; exact Nat.ne_of_gt this
    · have := I3.sz; rw [hCe] at this; exact this
    · intro x c e z
      obtain ⟨v, q⟩ := I3.cell x c e
      have := q.lt
      rw [z, ← hCe] at this
      exact absurd this (Nat.lt_irrefl _)
    · intro p hp z
      have := Heap.lt_size (I3.pin p hp).1
      rw [z, ← hCe] at this
      exact absurd this (Nat.lt_irrefl _)
  have F4 := F3.same (h' := h') fun b ob vs q d => (sb.2 b (nC q d)).trans q
  have f4 : m = none → F2 a .none h' := fun z => by
    obtain ⟨o2, v2, q1, q2, q3⟩ := f3 z
    exact ⟨o2, v2, (sb.2 a (nC q1 q2)).trans q1, q2, q3⟩
  unfold PySem.passOn
  obtain ⟨⟨oe4, vs4, T4, oT4, ts4, a04, y1, y2, y4, y3, y5, _⟩, _, _⟩ := id F4
  refine wpAny_bind (wpAny_field (s := { s2 with heap := h' }) y1 y4 y5 ?_)
  rw [if_neg (show ¬ (Value.ref T4 == Value.none) = true by simp)]
  refine wpAny_bind (thn ((kf_setFlight (.ref a) cenv.frame).anyIf (s := { s2 with heap := h' }) f4 (fly_mark (s := { s2 with heap := h' }) (Q := fun _ s' => ∃ h5, s' = { s2 with heap := h5 } ∧ Inv X pins σ H2 { s2 with heap := h5 } ∧ FlyF (cenv.frame.elim Value.none fun f => rawInt f) H2 s1.heap a Cc h5) I4 o F4 nonew fun h5 I5 F5 => ⟨h5, rfl, I5, F5⟩)) fun _ s5 ⟨⟨h5, e5, I5, F5⟩, f5⟩ => ?_)
  subst e5
  refine wpAny_throw (hL a _ (thn ((kf_leaving (.ref a) X.env).anyIf f5 (leave_any I5 o F5 hs0 nonew (Q := fun _ s' => ∃ h6, s' = { s2 with heap := h6 } ∧ Un X.fs [] X.H₀ H2 X.s₀.heap h6 ∧ HOk X.prog X.w H2 h6 ∧ FlyAt H2 X.s₀.heap a Cc h6) fun h6 u ok6 fl6 => ⟨h6, rfl, u, ok6, fl6⟩)) fun _ s6 ⟨⟨h6, e6, u, ok6, fl6⟩, f6⟩ => ?_))
  subst e6
  exact ⟨Cc, m, H2, I5.os, I5.bare, u, ok6, fl6, f6, hE⟩
abbrev cxE (X : Cx) (N : List Str) (scope : Scope) (cl : List (Str × Addr)) (C : Addr) (s : Shared) (H : Hp) (fp : List Addr) (XE : Value → Shared → Prop) : Cx := { cxC X N scope cl C s H fp with xe := XE }
theorem Inv.inE {C : Addr} {s0 : Shared} {H0 : Hp} {fp : List Addr} {XE : Value → Shared → Prop} (I : Inv (cxC X N scope cl C s0 H0 fp) pins σ H s) : Inv (cxE X N scope cl C s0 H0 fp XE) pins σ H s :=
  ⟨⟨I.ok.mod, I.ok.kind, I.ok.glob, I.ok.blt, I.ok.above, I.ok.inj, I.ok.has, I.ok.cab, I.ok.hd, I.ok.frames, I.ok.stk, I.ok.exf, I.ok.bs, I.ok.bsz, I.ok.noex, I.ok.exfs, I.ok.funs, I.ok.frf⟩, I.os, I.bare, I.base, I.loc, I.cell, I.free, I.freeC, I.pin, I.hok, I.len⟩
theorem Inv.unE {C : Addr} {s0 : Shared} {H0 : Hp} {fp : List Addr} {XE : Value → Shared → Prop} (I : Inv (cxE X N scope cl C s0 H0 fp XE) pins σ H s) : Inv (cxC X N scope cl C s0 H0 fp) pins σ H s :=
  ⟨⟨I.ok.mod, I.ok.kind, I.ok.glob, I.ok.blt, I.ok.above, I.ok.inj, I.ok.has, I.ok.cab, I.ok.hd, I.ok.frames, I.ok.stk, I.ok.exf, I.ok.bs, I.ok.bsz, I.ok.noex, I.ok.exfs, I.ok.funs, I.ok.frf⟩, I.os, I.bare, I.base, I.loc, I.cell, I.free, I.freeC, I.pin, I.hok, I.len⟩
theorem comp_blockX {E' : XK} (o : Own X) (hL : Leaves X E') {elt tg iter : Expr} {ifs : List Expr} {pos : Pos} {g : TG} {tt : TT} {te : TE} {J : It} {H1 : Hp} {it : Addr} {fp : List Addr} {tn : Nat → Heap → Prop} {s2 : Shared} {QD : V → Hp → Prop} {RR : Value → Addr → Result → Shared → Prop} {E : Value → Shared → Prop}
    (hc : X.calm = true) (cn : CompNames X N js scope cl)
    (hg : ∀ C s H fp, PG (cxC X N scope cl C s H fp) tg g) (ht : ∀ C s H fp, PTs (cxC X N scope cl C s H fp) ifs tt) (he : ∀ C s H fp XE, Passes (CXF X.prog X.w) (cxE X N scope cl C s H fp XE) E' → PE (cxE X N scope cl C s H fp XE) elt te)
    (I : Inv X pins σ H1 s2) (T : Turn X.prog X.w X.K tg J fp it tn) (st0 : tn 0 s2.heap) (hfp : ∀ b ∈ fp, FpOk X pins H1 b)
    (h : ∀ D, H1 D = none → ∃ W : Nat → Nat → St → Hp → Prop, (∃ m, W 0 m (pickσ js σ) (upd H1 D (.lst []))) ∧
      ∀ i m σ2 H2, W i m σ2 H2 → (J.stop i H2 ∧ QD (.ref D) H2) ∨ (J.go i H2 ∧ ∀ x H3, J.yld i H2 x H3 → g x σ2 H3 fun σ4 H4 => tt σ4 H4 fun b H5 =>
        if b = true then te σ4 H5 fun y H6 => ∃ xs, H6 D = some (.lst xs) ∧ xs.length < sizeLine ∧ ∃ m', m' < m ∧ W (i + 1) m' σ4 (upd H6 D (.lst (xs ++ [y]))) else ∃ m', m' < m ∧ W (i + 1) m' σ4 H5))
    (hRE : ∀ (D C : Addr) (x : Value) (s' : Shared), (∃ m, s'.heap.Ns C m ∧ ∀ h', Heap.SameBut C s'.heap h' → ∀ cenv : Env, cenv.locals = C → wpAny (model X.prog X.w) X.A (PySem.passOn "comprehension.variables-let-go" x cenv : Sem Value) (fun _ _ => False) X.xe { s' with heap := h' }) → RR (.ref D) C (.error x) s')
    (hRR : ∀ (D C : Addr) (H2 : Hp) (s5 : Shared) (m : Str → Option Value), Inv X pins σ H2 s5 → s5.heap.Ns C m → H2 C = none → C ≠ X.env.locals → X.s₀.heap.objs.size ≤ C → (∀ x c, X.env.cells.lookup x = some c → c ≠ C) → (∀ p ∈ X.pn ++ pins, p.1 ≠ C) → QD (.ref D) H2 → RR (.ref D) C (.ok .next) s5) :
    wpAny (model X.prog X.w) X.A (newList []) (fun acc s₃ => wpAny (model X.prog X.w) X.A (newFunctionEnv scope X.env.globals cl [] X.env.qual none .none (some X.env)) (fun cenv s₄ =>
      codeAny (model X.prog X.w) X.A (.compStart (.ListComp elt [⟨tg, iter, ifs, 0⟩] scope pos) 0 (.ref it) acc { cenv with scope := relabel scope X.env }) (RR acc cenv.locals) s₄) E s₃) E s2 := by
  have I3 : Inv X pins σ (upd H1 s2.heap.objs.size (.lst [])) { s2 with heap := s2.heap.push { cls := .type "list", data := .seq ([] : List Value).toArray }, toks := s2.toks } := I.lnew .nil (Nat.zero_le _)
  refine wpAny_newObj_type (wpAny_newFunctionEnv cn.nocell (by intro y hy; simp at hy) (fun h4 ns4 sb4 => ?_) cn.kind)
  obtain ⟨W, ⟨m0, w0⟩, turn⟩ := h s2.heap.objs.size I.fresh
  have hD : H1 s2.heap.objs.size = none := I.fresh
  have lt2 : ∀ b ∈ fp, b < s2.heap.objs.size := fun b hb => by obtain ⟨o, e, _⟩ := T.obj 0 _ st0 b hb; exact Heap.lt_size e
  have hfp3 : ∀ b ∈ fp, FpOk X pins (upd H1 s2.heap.objs.size (.lst [])) b := fun b hb => ⟨by rw [upd_ne (Nat.ne_of_lt (lt2 b hb))]; exact (hfp b hb).1, (hfp b hb).2⟩
  have hin3 : ∀ b ∈ fp, ∃ o, (s2.heap.push { cls := .type "list", data := .seq ([] : List Value).toArray }).get? b = some o := fun b hb => by
    obtain ⟨o, e, _⟩ := T.obj 0 _ st0 b hb
    exact ⟨o, Heap.get?_push_of_some _ e⟩
  have I4 : Inv (cxC X N scope cl (s2.heap.push { cls := .type "list", data := .seq ([] : List Value).toArray }).objs.size { s2 with heap := s2.heap.push { cls := .type "list", data := .seq ([] : List Value).toArray }, toks := s2.toks } (upd H1 s2.heap.objs.size (.lst [])) fp) [] (pickσ js σ) (upd H1 s2.heap.objs.size (.lst []))
      { s2 with heap := h4, toks := s2.toks + ([] : List (Str × Value)).length } := comp_start (t' := s2.toks + ([] : List (Str × Value)).length) I3 cn hfp3 hin3 ns4 sb4
  have ltC : ∀ b ∈ fp, b < (s2.heap.push { cls := .type "list", data := .seq ([] : List Value).toArray }).objs.size := fun b hb => by rw [Heap.size_push]; exact Nat.lt_succ_of_lt (lt2 b hb)
  have st4 : tn 0 h4 := T.keep 0 _ _ st0 fun b hb o e => (sb4.2 b (Nat.ne_of_lt (ltC b hb))).trans (Heap.get?_push_of_some _ (Heap.get?_push_of_some _ e))
  have loop : codeAny (model X.prog X.w) X.A (.compLoop (.ListComp elt [⟨tg, iter, ifs, 0⟩] scope pos) 0 (.ref it) (.ref s2.heap.objs.size) (compEnvC scope cl (s2.heap.push { cls := .type "list", data := .seq ([] : List Value).toArray }).objs.size X.env))
      (RR (.ref s2.heap.objs.size) (s2.heap.push { cls := .type "list", data := .seq ([] : List Value).toArray }).objs.size) { s2 with heap := h4, toks := s2.toks + ([] : List (Str × Value)).length } := by
    generalize hCe : (s2.heap.push { cls := .type "list", data := .seq ([] : List Value).toArray }).objs.size = C at *
    generalize hse : ({ s2 with heap := s2.heap.push { cls := .type "list", data := .seq ([] : List Value).toArray }, toks := s2.toks } : Shared) = s3 at *
    have stat : ∀ {H' : Hp}, (∀ b ∈ fp, H' b = none) → ∀ b ∈ fp, FpOk (cxC X N scope cl C s3 (upd H1 s2.heap.objs.size (.lst [])) fp) [] H' b := fun hn b hb =>
      ⟨hn b hb, Nat.ne_of_lt (ltC b hb), I4.ok.exfs b hb, .inl hb, fun x c e => (hfp b hb).2.2.2.2.1 x c (cn.sub x c e), fun p hp => absurd (show p ∈ ([] : List (Addr × Obj)) from hp) (by simp)⟩
    refine compLoop_err (fun n s' => ∃ i σ' H', Inv (cxC X N scope cl C s3 (upd H1 s2.heap.objs.size (.lst [])) fp) [] σ' H' s' ∧ tn i s'.heap ∧ (∀ b ∈ fp, H' b = none) ∧ W i n σ' H') ?_ m0 ⟨0, _, _, I4, st4, fun b hb => (hfp3 b hb).1, w0⟩
    rintro n s5 ⟨i, σ5, H5, I5, st5, fr5, w5⟩
    rcases turn i n σ5 H5 w5 with ⟨stop, qn⟩ | ⟨go, step⟩
    · refine thn (T.done (cxC X N scope cl C s3 (upd H1 s2.heap.objs.size (.lst [])) fp) rfl rfl rfl hc i [] s5 σ5 H5 (fun _ _ => False) I5 (stat fr5) st5 stop) fun r s6 ⟨hr, I6⟩ => ?_
      subst hr
      obtain ⟨mC, nsC, _⟩ := id I6.loc
      have IX : Inv X pins σ H5 s6 := comp_end I3 hfp3 I6
      refine hRR _ C H5 s6 mC IX nsC I6.free ?_ ?_ ?_ ?_ qn
      · have := I3.lt; rw [← hCe]; exact Nat.ne_of_gt (by rw [← hse] at this; exact this)
      · have := I3.sz; rw [← hCe]; rw [← hse] at this; exact this
      · intro x c e z
        obtain ⟨v, q⟩ := I3.cell x c e
        have := q.lt
        rw [z, ← hCe, ← hse] at this
        exact absurd this (Nat.lt_irrefl _)
      · intro p hp z
        have := Heap.lt_size (I3.pin p hp).1
        rw [z, ← hCe, ← hse] at this
        exact absurd this (Nat.lt_irrefl _)
    · refine thn (T.item (cxC X N scope cl C s3 (upd H1 s2.heap.objs.size (.lst [])) fp) rfl rfl rfl hc i [] s5 σ5 H5 (fun _ _ => False) I5 (stat fr5) st5 go) fun r s6 ⟨u, hr, h6⟩ => ?_
      subst hr
      refine thn h6 fun _ s7 ⟨x, H7, I7, r7, y7, st7, fr7⟩ => ?_
      have I7' := I7.pinned (stat fr7) (T.obj _ _ st7)
      refine thn (hg C s3 _ fp _ s7 σ5 H7 x u _ I7' r7 (step x H7 y7)) fun _ s8 ⟨σ8, H8, I8, q8⟩ => ?_
      refine thn (ht C s3 _ fp _ s8 σ8 H8 _ I8 q8) fun ok s9 ⟨H9, I9, q9⟩ => ?_
      have again : ∀ {s' : Shared} {H' : Hp}, Inv (cxC X N scope cl C s3 (upd H1 s2.heap.objs.size (.lst [])) fp) ([] ++ pinsAt fp s7.heap) σ8 H' s' → (∃ m', m' < n ∧ W (i + 1) m' σ8 H') →
          ∃ m, m < n ∧ ∃ i σ' H', Inv (cxC X N scope cl C s3 (upd H1 s2.heap.objs.size (.lst [])) fp) [] σ' H' s' ∧ tn i s'.heap ∧ (∀ b ∈ fp, H' b = none) ∧ W i m σ' H' := fun {s' H'} I' ⟨m', hm, w'⟩ =>
        ⟨m', hm, i + 1, σ8, H', I'.unpinned, T.keep _ _ _ st7 fun b hb o e => (I'.pin (b, o) (List.mem_append_right _ (List.mem_append_right _ (mem_pinsAt hb e)))).1, fun b hb => by
          obtain ⟨o, e, d⟩ := T.obj _ _ st7 b hb
          exact (I'.pin (b, o) (List.mem_append_right _ (List.mem_append_right _ (mem_pinsAt hb e)))).2.1, w'⟩
      cases ok with
      | false =>
        rw [if_neg Bool.false_ne_true]
        rw [if_neg Bool.false_ne_true] at q9
        exact again I9 q9
      | true =>
        rw [if_pos rfl]
        rw [if_pos rfl] at q9
        have hps : Passes (CXF X.prog X.w) (cxE X N scope cl C s3 (upd H1 s2.heap.objs.size (.lst [])) fp (notedBy (model X.prog X.w) X.A (compEnvC scope cl C X.env) fun x s' => RR (.ref s2.heap.objs.size) C (.error x) s')) E' := fun pins' σ' Ha sa ev sb J hx =>
          wpAny_mono (comp_err o hL I3 hfp3 (by rw [← hCe, ← hse]) J.unE hx) (fun _ s' z => hRE _ _ _ _ z) fun x s' z => hRE _ _ _ _ z
        refine thn (he C s3 _ fp _ hps _ s9 σ8 H9 _ I9.inE q9) fun y s10 ⟨yv, H10, I10, r10, xs, hxs, hz, q10⟩ => ?_
        have I10 := I10.unE
        refine thn (mt_append _ s10 σ8 H10 (.ref s2.heap.objs.size) [yv] _ [y] (fun _ H' => ∃ m', m' < n ∧ W (i + 1) m' σ8 H') I10 rfl (.cons r10 .nil) ⟨_, xs, yv, rfl, rfl, hxs, hz, q10⟩) fun _ s11 ⟨_, H11, I11, _, q11⟩ => again I11 q11
  exact codeAny_compStart_list loop (T.self _ 0 _ _ _ st4 loop)
theorem pe_lcX {E' : XK} (o : Own X) (hL : Leaves X E') {elt tg iter : Expr} {ifs : List Expr} {pos : Pos} {wi : TI} {g : TG} {tt : TT} {te : TE} (hc : X.calm = true) (cn : CompNames X N js scope cl) (hi : PI X tg iter wi)
    (hg : ∀ C s H fp, PG (cxC X N scope cl C s H fp) tg g) (ht : ∀ C s H fp, PTs (cxC X N scope cl C s H fp) ifs tt) (he : ∀ C s H fp XE, Passes (CXF X.prog X.w) (cxE X N scope cl C s H fp XE) E' → PE (cxE X N scope cl C s H fp XE) elt te)
    (hs : ∀ x, foldedSetIterable iter X.env x = pure x := by intro _; rfl) : PE X (.ListComp elt [⟨tg, iter, ifs, 0⟩] scope pos) (tLC js wi g tt te) := by
  intro pins s σ H Q I h
  rw [eval_ListComp]
  refine wpAny_comprehension_free (use := none) rfl hs cn.clos cn.kind cn.names (thn (hi pins s σ H _ I h) fun v s1 h1 => thn h1 fun itv s2 h2 => ?_)
  obtain ⟨it, fp, tn, J, H2, rfl, I2, T, st2, f2, q⟩ := h2
  refine comp_blockX o hL (RR := fun acc C => compPost (model X.prog X.w) X.A X.xe none (EP X pins σ Q) acc C) hc cn hg ht he I2 T st2 f2 q (fun D C x s' z => z) ?_
  intro D C H3 s3 m I3 ns hC hL h0 hcl hp q3
  exact ⟨m, ns, fun h' sb => ⟨.ref D, H3, I3.turned (t' := s3.toks) (fun b o hb e => (sb.2 b hb).trans e) hC hL (.inr h0) hcl hp, rfl, q3⟩⟩
end
end L2
set_option Elab.async false
set_option linter.all false
set_option maxRecDepth 100000
set_option maxHeartbeats 4000000
namespace L2
open PySem PySem.Spec PyProof.Rows
section
variable {X : Cx}
def PSx (X : Cx) (e : Expr) (r : St → Hp → Str → Prop) : Prop :=
  ∀ (pins : List (Addr × Obj)) (s : Shared) (σ : St) (H : Hp) (x : Str), Inv X pins σ H s → r σ H x → x.length ≤ sizeLine → wpAny (model X.prog X.w) X.A (eval e X.env) (fun u s' => ∃ t, u = .str x t ∧ Inv X pins σ H s') X.xe s
theorem psx_const {x : Str} {j : Nat} {pos : Pos} : PSx X (.Constant (.str x) j pos) (fun _ _ y => y = x) := fun _ _ _ _ y I h _ => by
  subst h
  exact Calls.Constant_str ⟨_, rfl, I.tok _⟩
theorem psx_int (i : Nat) {x : Str} {p pos : Pos} (hN : X.N[i]? = some x := by rfl) (hv : Vis X.env.scope x := by first | exact Or.inl rfl | exact Or.inr (Or.inl rfl) | exact Or.inr (Or.inr rfl)) (hd : (x == ("__debug__" : Str)) = false := by decide)
    (hcd : (x == ("__classdict__" : Str)) = false := by decide) : PSx X (.FormattedValue (.Name x p) (-1) none pos) (fun σ _ y => ∃ k : Int, σ[i]? = some (some (.int k)) ∧ k.natAbs < 10 ^ 20 ∧ y = Str.ofString (toString k)) := by
  intro pins s σ H y I h _
  obtain ⟨k, e1, hk, rfl⟩ := h
  refine wpAny_FormattedValue_plain (thn ((pe_var hN hv hd hcd) pins s σ H (fun v H1 => v = .int k ∧ H1 = H) I ⟨_, e1, rfl, rfl⟩) fun u s1 ⟨v, H1, I1, r1, e2, e3⟩ => ?_)
  subst e2 e3
  obtain ⟨t, rfl⟩ := r1
  exact wpAny_formatField_int (log2_small hk) ⟨_, rfl, I1.tok _⟩
theorem psx_str {x : Str} {z : Str} {p pos : Pos} (h : PE X (.Name x p) (tC (.str z))) : PSx X (.FormattedValue (.Name x p) (-1) none pos) (fun _ _ y => y = z) := by
  intro pins s σ H y I hy hz
  subst hy
  refine wpAny_FormattedValue_plain (thn (h pins s σ H (fun v H1 => v = .str y ∧ H1 = H) I ⟨rfl, rfl⟩) fun u s1 ⟨v, H1, I1, r1, e2, e3⟩ => ?_)
  subst e2 e3
  obtain ⟨t, rfl⟩ := r1
  exact wpAny_formatField_str ⟨_, rfl, I1⟩ ⟨_, rfl, I1.tok _⟩ hz
def PSxs (X : Cx) (es : List Expr) (r : St → Hp → Str → Prop) : Prop :=
  ∀ (pins : List (Addr × Obj)) (s : Shared) (σ : St) (H : Hp) (acc y : Str) (Q : Str → Shared → Prop), Inv X pins σ H s → r σ H y → (acc ++ y).length ≤ sizeLine → (∀ s1, Inv X pins σ H s1 → Q (acc ++ y) s1) →
    Joins (model X.prog X.w) X.A X.xe (evalEach es X.env) acc Q s
theorem psxs_nil : PSxs X [] (fun _ _ y => y = Str.empty) := fun _ s _ _ acc y Q I h _ q => by
  subst h
  have := q s I
  rw [Str.append_empty] at this
  exact this
theorem psxs_cons {e : Expr} {es : List Expr} {p q : St → Hp → Str → Prop} (h : PSx X e p) (t : PSxs X es q) (hs : evalEach (e :: es) X.env = eval e X.env :: evalEach es X.env := by rfl) : PSxs X (e :: es) (fun σ H z => ∃ x y, p σ H x ∧ q σ H y ∧ z = x ++ y) := by
  intro pins s σ H acc z Q I hp hz hQ
  obtain ⟨x, y, hx, hy, rfl⟩ := hp
  rw [strLen_append, strLen_append] at hz
  rw [hs]
  refine thn (h pins s σ H x I hx (by omega)) fun u s1 ⟨t1, e1, I1⟩ => ⟨x, t1, e1, by rw [strLen_append]; omega, ?_⟩
  refine t pins s1 σ H (acc ++ x) y Q I1 hy (by rw [strLen_append, strLen_append]; omega) fun s2 I2 => ?_
  rw [Str.append_assoc]
  exact hQ s2 I2
def tFx (r : St → Hp → Str → Prop) : TE := fun σ H Q => ∃ x, r σ H x ∧ x.length ≤ sizeLine ∧ Q (.str x) H
theorem pe_fstrX {v1 v2 : Expr} {rest : List Expr} {r : St → Hp → Str → Prop} {pos : Pos} (h : PSxs X (v1 :: v2 :: rest) r) : PE X (.JoinedStr (v1 :: v2 :: rest) pos) (tFx r) := by
  intro pins s σ H Q I hw
  obtain ⟨x, hx, hz, hq⟩ := hw
  have e0 : Str.empty ++ x = x := Str.empty_append x
  refine wpAny_JoinedStr (h pins s σ H Str.empty x _ I hx (by rw [e0]; exact hz) fun s1 I1 => ?_)
  rw [e0]
  exact ⟨hz, .str x, H, I1.tok _, ⟨_, rfl⟩, hq⟩
end
end L2
set_option Elab.async false
set_option linter.all false
set_option maxRecDepth 100000
set_option maxHeartbeats 4000000
namespace My
def joinC (c : Nat) : List (List Nat) → List Nat
  | [] => []
  | [p] => p
  | p :: q :: r => p ++ c :: joinC c (q :: r)
def splitC (c : Nat) : List Nat → List (List Nat)
  | [] => [[]]
  | a :: l => if a = c then [] :: splitC c l else (a :: (splitC c l).headD []) :: (splitC c l).tail
theorem splitC_cons (c a : Nat) (l : List Nat) : splitC c (a :: l) = if a = c then [] :: splitC c l else (a :: (splitC c l).headD []) :: (splitC c l).tail := rfl
theorem splitC_ne (c : Nat) : ∀ l, splitC c l ≠ []
  | [] => List.cons_ne_nil _ _
  | a :: l => by
    unfold splitC
    split <;> exact List.cons_ne_nil _ _
theorem splitC_one {c : Nat} : ∀ {p : List Nat}, c ∉ p → splitC c p = [p]
  | [], _ => rfl
  | a :: l, h => by
    have h1 : a ≠ c := fun e => h (e ▸ .head _)
    have h2 : c ∉ l := fun e => h (.tail _ e)
    unfold splitC
    rw [if_neg h1, splitC_one h2]
    rfl
theorem splitC_app {c : Nat} : ∀ {p : List Nat} (r : List Nat), c ∉ p → splitC c (p ++ c :: r) = p :: splitC c r
  | [], r, _ => by
    show splitC c (c :: r) = _
    rw [splitC_cons, if_pos rfl]
  | a :: l, r, h => by
    have h1 : a ≠ c := fun e => h (e ▸ .head _)
    have h2 : c ∉ l := fun e => h (.tail _ e)
    show splitC c (a :: (l ++ c :: r)) = _
    rw [splitC_cons, if_neg h1, splitC_app r h2]
    rfl
theorem splitC_join {c : Nat} : ∀ {ps : List (List Nat)}, ps ≠ [] → (∀ p ∈ ps, c ∉ p) → splitC c (joinC c ps) = ps
  | [], h, _ => absurd rfl h
  | [p], _, h => splitC_one (h p (.head _))
  | p :: q :: r, _, h => by
    show splitC c (p ++ c :: joinC c (q :: r)) = _
    rw [splitC_app _ (h p (.head _)), splitC_join (List.cons_ne_nil _ _) fun x hx => h x (.tail _ hx)]
theorem join_splitC {c : Nat} : ∀ l : List Nat, joinC c (splitC c l) = l
  | [] => rfl
  | a :: l => by
    have ih := join_splitC (c := c) l
    unfold splitC
    cases z : splitC c l with
    | nil => exact absurd z (splitC_ne c l)
    | cons x r =>
      rw [z] at ih
      by_cases e : a = c
      · rw [if_pos e]
        show [] ++ c :: joinC c (x :: r) = _
        rw [ih, e]
        rfl
      · rw [if_neg e]
        cases r with
        | nil =>
          show a :: x = _
          rw [← ih]
          rfl
        | cons y r =>
          show (a :: x) ++ c :: joinC c (y :: r) = _
          have ih' : x ++ c :: joinC c (y :: r) = l := ih
          rw [List.cons_append, ih']
def isD (c : Nat) : Bool := decide (48 ≤ c) && decide (c ≤ 57)
def numL : List Nat → Option Nat
  | [a] => if isD a = true then some (a - 48) else none
  | [a, b] => if (isD a && isD b && a != 48) = true then some ((a - 48) * 10 + (b - 48)) else none
  | [a, b, c] => if (isD a && isD b && isD c && a != 48) = true then some (((a - 48) * 10 + (b - 48)) * 10 + (c - 48)) else none
  | _ => none
theorem isD_iff {c : Nat} : isD c = true ↔ 48 ≤ c ∧ c ≤ 57 := by
  unfold isD
  rw [Bool.and_eq_true, decide_eq_true_iff, decide_eq_true_iff]
theorem numL_digits {w : List Nat} {n : Nat} (h : numL w = some n) : w ≠ [] ∧ ∀ c ∈ w, 48 ≤ c ∧ c ≤ 57 := by
  match w, h with
  | [a], h =>
    simp only [numL] at h
    split at h
    · rename_i h1
      have := isD_iff.mp h1
      refine ⟨List.cons_ne_nil _ _, fun c hc => ?_⟩
      rw [List.mem_singleton.mp hc]; exact this
    · cases h
  | [a, b], h =>
    simp only [numL] at h
    split at h
    · rename_i h1
      rw [Bool.and_eq_true, Bool.and_eq_true, isD_iff, isD_iff] at h1
      refine ⟨List.cons_ne_nil _ _, fun c hc => ?_⟩
      simp at hc
      rcases hc with rfl | rfl
      · exact h1.1.1
      · exact h1.1.2
    · cases h
  | [a, b, d], h =>
    simp only [numL] at h
    split at h
    · rename_i h1
      rw [Bool.and_eq_true, Bool.and_eq_true, Bool.and_eq_true, isD_iff, isD_iff, isD_iff] at h1
      refine ⟨List.cons_ne_nil _ _, fun c hc => ?_⟩
      simp at hc
      rcases hc with rfl | rfl | rfl
      · exact h1.1.1.1
      · exact h1.1.1.2
      · exact h1.1.2
    · cases h
theorem numL_free {w : List Nat} {n c : Nat} (h : numL w = some n) (hc : c < 48) : c ∉ w := fun m => by
  have := (numL_digits h).2 c m
  omega
theorem numL_lt {w : List Nat} {n : Nat} (h : numL w = some n) : n < 1000 := by
  have hd := (numL_digits h).2
  match w, h, hd with
  | [a], h, hd =>
    have := hd a (.head _)
    simp only [numL] at h
    split at h
    · have := Option.some.inj h; omega
    · cases h
  | [a, b], h, hd =>
    have := hd a (.head _)
    have := hd b (.tail _ (.head _))
    simp only [numL] at h
    split at h
    · have := Option.some.inj h; omega
    · cases h
  | [a, b, c], h, hd =>
    have := hd a (.head _)
    have := hd b (.tail _ (.head _))
    have := hd c (.tail _ (.tail _ (.head _)))
    simp only [numL] at h
    split at h
    · have := Option.some.inj h; omega
    · cases h
def before (c : Nat) (l : List Nat) : List Nat := l.takeWhile fun x => x != c
def after (c : Nat) (l : List Nat) : List Nat := (l.dropWhile fun x => x != c).drop 1
theorem before_app {c : Nat} : ∀ {p : List Nat} (r : List Nat), c ∉ p → before c (p ++ c :: r) = p
  | [], r, _ => by unfold before; simp
  | a :: l, r, h => by
    have h1 : a ≠ c := fun e => h (e ▸ .head _)
    have h2 : c ∉ l := fun e => h (.tail _ e)
    have ih := before_app r h2
    unfold before at ih ⊢
    rw [List.cons_append, List.takeWhile_cons, if_pos (by simpa using h1), ih]
theorem after_app {c : Nat} : ∀ {p : List Nat} (r : List Nat), c ∉ p → after c (p ++ c :: r) = r
  | [], r, _ => by unfold after; simp
  | a :: l, r, h => by
    have h1 : a ≠ c := fun e => h (e ▸ .head _)
    have h2 : c ∉ l := fun e => h (.tail _ e)
    have ih := after_app r h2
    unfold after at ih ⊢
    rw [List.cons_append, List.dropWhile_cons, if_pos (by simpa using h1), ih]
theorem after_none {c : Nat} {l : List Nat} (h : c ∉ l) : after c l = [] := by
  induction l with
  | nil => rfl
  | cons a l ih =>
    have h1 : a ≠ c := fun e => h (e ▸ .head _)
    have h2 : c ∉ l := fun e => h (.tail _ e)
    have := ih h2
    unfold after at this ⊢
    rw [List.dropWhile_cons, if_pos (by simpa using h1), this]
theorem cut_at {c : Nat} {l : List Nat} (h : c ∈ l) : l = before c l ++ c :: after c l ∧ c ∉ before c l := by
  induction l with
  | nil => cases h
  | cons a l ih =>
    by_cases e : a = c
    · subst e
      unfold before after
      rw [List.takeWhile_cons, List.dropWhile_cons, if_neg (by simp), if_neg (by simp)]
      exact ⟨rfl, List.not_mem_nil⟩
    · have hl : c ∈ l := (List.mem_cons.mp h).elim (fun z => absurd z.symm e) id
      obtain ⟨h1, h2⟩ := ih hl
      unfold before after at h1
      unfold before at h2
      unfold before after
      rw [List.takeWhile_cons, List.dropWhile_cons, if_pos (by simpa using e), if_pos (by simpa using e)]
      refine ⟨?_, fun m => ?_⟩
      · rw [List.cons_append, ← h1]
      · rcases List.mem_cons.mp m with m | m
        · exact e m.symm
        · exact h2 m
def tieL (row : List Nat) : Option (List Nat) :=
  (numL (before 45 row)).bind fun a => (numL (before 32 (after 45 row))).bind fun b => (numL (after 32 (after 45 row))).map fun c => [a, b, c]
theorem tieL_of {a b c : Nat} {A B C : List Nat} (hA : numL A = some a) (hB : numL B = some b) (hC : numL C = some c) : tieL (A ++ 45 :: (B ++ 32 :: C)) = some [a, b, c] := by
  unfold tieL
  rw [before_app _ (numL_free hA (by decide)), after_app _ (numL_free hA (by decide)), before_app _ (numL_free hB (by decide)), after_app _ (numL_free hB (by decide)), hA, hB, hC]
  rfl
theorem tieL_some {row : List Nat} {ns : List Nat} (h : tieL row = some ns) : ∃ A B C a b c, row = A ++ 45 :: (B ++ 32 :: C) ∧ numL A = some a ∧ numL B = some b ∧ numL C = some c ∧ ns = [a, b, c] := by
  unfold tieL at h
  cases h1 : numL (before 45 row) with
  | none => rw [h1] at h; cases h
  | some a =>
    cases h2 : numL (before 32 (after 45 row)) with
    | none => rw [h1, h2] at h; cases h
    | some b =>
      cases h3 : numL (after 32 (after 45 row)) with
      | none => rw [h1, h2, h3] at h; cases h
      | some c =>
        rw [h1, h2, h3] at h
        have m1 : 45 ∈ row := by
          by_cases m : 45 ∈ row
          · exact m
          · rw [after_none m] at h2
            cases h2
        have m2 : 32 ∈ after 45 row := by
          by_cases m : 32 ∈ after 45 row
          · exact m
          · rw [after_none m] at h3
            cases h3
        obtain ⟨e1, _⟩ := cut_at m1
        obtain ⟨e2, _⟩ := cut_at m2
        exact ⟨_, _, _, a, b, c, by rw [← e2, ← e1], h1, h2, h3, (Option.some.inj h).symm⟩
def allN {α β : Type} (f : α → Option β) : List α → Option (List β)
  | [] => some []
  | x :: r => (f x).bind fun n => (allN f r).map fun ns => n :: ns
theorem allN_len {α β : Type} {f : α → Option β} : ∀ {l : List α} {ns : List β}, allN f l = some ns → ns.length = l.length
  | [], ns, h => by cases h; rfl
  | x :: r, ns, h => by
    unfold allN at h
    cases h1 : f x with
    | none => rw [h1] at h; cases h
    | some n =>
      cases h2 : allN f r with
      | none => rw [h1, h2] at h; cases h
      | some ms =>
        rw [h1, h2] at h
        cases h
        show ms.length + 1 = r.length + 1
        rw [allN_len h2]
def lawTie (row : List Nat) : Option (List Nat) :=
  (allN numL (splitC 45 ((splitC 32 row).headD []) ++ (splitC 32 row).tail)).bind fun ns => if (splitC 32 row).length = 2 ∧ ns.length = 3 then some ns else none
theorem law_tie (row : List Nat) : lawTie row = tieL row := by
  have key : ∀ ns, lawTie row = some ns ↔ tieL row = some ns := fun ns => by
    constructor
    · intro h
      unfold lawTie at h
      cases h1 : allN numL (splitC 45 ((splitC 32 row).headD []) ++ (splitC 32 row).tail) with
      | none => rw [h1] at h; cases h
      | some ms =>
        rw [h1] at h
        have h : (if (splitC 32 row).length = 2 ∧ ms.length = 3 then some ms else none) = some ns := h
        split at h
        · rename_i hc
          obtain ⟨c1, c2⟩ := hc
          cases h
          have hlen := allN_len h1
          match hp : splitC 32 row, c1 with
          | [X, C], _ =>
            rw [hp] at h1 hlen
            have hl2 : (splitC 45 X).length = 2 := by
              have : ns.length = (splitC 45 X).length + 1 := by rw [hlen]; simp
              omega
            match hq : splitC 45 X, hl2 with
            | [A, B], _ =>
              have e1 : row = X ++ 32 :: C := by rw [← join_splitC (c := 32) row, hp]; rfl
              have e2 : X = A ++ 45 :: B := by rw [← join_splitC (c := 45) X, hq]; rfl
              have h1 : allN numL [A, B, C] = some ns := by
                have : allN numL (splitC 45 X ++ [C]) = some ns := h1
                rw [hq] at this
                exact this
              unfold allN at h1
              cases ha : numL A with
              | none => rw [ha] at h1; cases h1
              | some a =>
                unfold allN at h1
                cases hb : numL B with
                | none => rw [ha, hb] at h1; cases h1
                | some b =>
                  unfold allN at h1
                  cases hcc : numL C with
                  | none => rw [ha, hb, hcc] at h1; cases h1
                  | some c =>
                    rw [ha, hb, hcc] at h1
                    cases h1
                    rw [e1, e2, List.append_assoc]
                    exact tieL_of ha hb hcc
        · cases h
    · intro h
      obtain ⟨A, B, C, a, b, c, rfl, hA, hB, hC, rfl⟩ := tieL_some h
      have s1 : splitC 32 (A ++ 45 :: (B ++ 32 :: C)) = [A ++ 45 :: B, C] := by
        have : A ++ 45 :: (B ++ 32 :: C) = (A ++ 45 :: B) ++ 32 :: C := by rw [List.append_assoc]; rfl
        rw [this, splitC_app _ (fun m => ?_), splitC_one (numL_free hC (by decide))]
        rcases List.mem_append.mp m with m | m
        · exact numL_free hA (by decide) m
        · rcases List.mem_cons.mp m with m | m
          · cases m
          · exact numL_free hB (by decide) m
      have s2 : splitC 45 (A ++ 45 :: B) = [A, B] := by
        rw [splitC_app _ (numL_free hA (by decide)), splitC_one (numL_free hB (by decide))]
      unfold lawTie
      rw [s1]
      show (allN numL (splitC 45 (A ++ 45 :: B) ++ [C])).bind _ = _
      rw [s2]
      show (allN numL [A, B, C]).bind _ = _
      have : allN numL [A, B, C] = some [a, b, c] := by
        unfold allN; rw [hA]; unfold allN; rw [hB]; unfold allN; rw [hC]; rfl
      rw [this]
      rfl
  cases h : tieL row with
  | some ns => exact (key ns).mpr h
  | none =>
    cases h2 : lawTie row with
    | none => rfl
    | some ns => rw [(key ns).mp h2] at h; cases h
def valL (w : List Nat) : Nat := w.foldl (fun v c => v * 10 + (c - 48)) 0
def signsL (n : Nat) : List Nat := (Nat.toDigits 10 n).map Char.toNat
theorem signs_num : ∀ n < 1000, numL (signsL n) = some n := by decide +kernel
theorem signs_len : ∀ n < 1000, (signsL n).length ≤ 3 := by decide +kernel
theorem nb1 : ∀ d < 10, numL [48 + d] = if signsL (valL [48 + d]) = [48 + d] then some (valL [48 + d]) else none := by decide +kernel
theorem nb2 : ∀ d < 10, ∀ e < 10, numL [48 + d, 48 + e] = if signsL (valL [48 + d, 48 + e]) = [48 + d, 48 + e] then some (valL [48 + d, 48 + e]) else none := by decide +kernel
theorem nb3 : ∀ d < 10, ∀ e < 10, ∀ f < 10, numL [48 + d, 48 + e, 48 + f] = if signsL (valL [48 + d, 48 + e, 48 + f]) = [48 + d, 48 + e, 48 + f] then some (valL [48 + d, 48 + e, 48 + f]) else none := by decide +kernel
theorem digit_of {a : Nat} (h : 48 ≤ a ∧ a ≤ 57) : ∃ d, d < 10 ∧ a = 48 + d := ⟨a - 48, by omega, by omega⟩
theorem num_back {w : List Nat} (h1 : 1 ≤ w.length) (h3 : w.length ≤ 3) (hd : ∀ c ∈ w, 48 ≤ c ∧ c ≤ 57) : numL w = if signsL (valL w) = w then some (valL w) else none := by
  match w, h1, h3, hd with
  | [a], _, _, hd =>
    obtain ⟨d, h, rfl⟩ := digit_of (hd a (.head _))
    exact nb1 d h
  | [a, b], _, _, hd =>
    obtain ⟨d, h, rfl⟩ := digit_of (hd a (.head _))
    obtain ⟨e, h2, rfl⟩ := digit_of (hd b (.tail _ (.head _)))
    exact nb2 d h e h2
  | [a, b, c], _, _, hd =>
    obtain ⟨d, h, rfl⟩ := digit_of (hd a (.head _))
    obtain ⟨e, h2, rfl⟩ := digit_of (hd b (.tail _ (.head _)))
    obtain ⟨f, h3, rfl⟩ := digit_of (hd c (.tail _ (.tail _ (.head _))))
    exact nb3 d h e h2 f h3
  | _ :: _ :: _ :: _ :: _, _, h3, _ => exact absurd h3 (by simp)
theorem num_zero {w : List Nat} (h1 : 1 ≤ w.length) (h3 : w.length ≤ 3) (hd : ∀ c ∈ w, 48 ≤ c ∧ c ≤ 57) : numL w = if w.headD 0 = 48 ∧ w ≠ [48] then none else some (valL w) := by
  have D : ∀ c, c ∈ w → isD c = true := fun c hc => isD_iff.mpr (hd _ hc)
  match w, h1, h3, D with
  | [a], _, _, D =>
    show (if isD a = true then some (a - 48) else none) = _
    rw [if_pos (D _ (.head _))]
    by_cases c : a = 48
    · subst c; rfl
    · rw [if_neg (fun z => c z.1)]
      show some (a - 48) = some (0 * 10 + (a - 48))
      rw [Nat.zero_mul, Nat.zero_add]
  | [a, b], _, _, D =>
    show (if (isD a && isD b && a != 48) = true then some ((a - 48) * 10 + (b - 48)) else none) = _
    rw [D _ (.head _), D _ (.tail _ (.head _))]
    by_cases c : a = 48
    · subst c; rfl
    · rw [if_pos (by simpa using c), if_neg (fun z => c z.1)]
      show _ = some ((0 * 10 + (a - 48)) * 10 + (b - 48))
      rw [Nat.zero_mul, Nat.zero_add]
  | [a, b, d], _, _, D =>
    show (if (isD a && isD b && isD d && a != 48) = true then some (((a - 48) * 10 + (b - 48)) * 10 + (d - 48)) else none) = _
    rw [D _ (.head _), D _ (.tail _ (.head _)), D _ (.tail _ (.tail _ (.head _)))]
    by_cases c : a = 48
    · subst c; rfl
    · rw [if_pos (by simpa using c), if_neg (fun z => c z.1)]
      show _ = some (((0 * 10 + (a - 48)) * 10 + (b - 48)) * 10 + (d - 48))
      rw [Nat.zero_mul, Nat.zero_add]
  | _ :: _ :: _ :: _ :: _, _, h3, _ => exact absurd h3 (by simp)
theorem numL_none {w : List Nat} (h : ¬ (1 ≤ w.length ∧ w.length ≤ 3) ∨ ∃ c ∈ w, ¬ (48 ≤ c ∧ c ≤ 57)) : numL w = none := by
  cases z : numL w with
  | none => rfl
  | some n =>
    rcases h with h | ⟨c, hc, h⟩
    · match w, z, h with
      | [a], _, h => exact absurd ⟨by simp, by simp⟩ h
      | [a, b], _, h => exact absurd ⟨by simp, by simp⟩ h
      | [a, b, c], _, h => exact absurd ⟨by simp, by simp⟩ h
    · exact absurd ((numL_digits z).2 c hc) h
def headW : List Nat := [112, 108, 97, 99, 101, 115, 32]
def parse (t : List Nat) : Option (Nat × List (List Nat)) :=
  if ((splitC 10 t).headD []).take 7 = headW then (numL (((splitC 10 t).headD []).drop 7)).bind fun n => (allN tieL (splitC 10 t).tail).map fun ts => (n, ts) else none
def rowL : List Nat → List Nat
  | [a, b, c] => signsL a ++ 45 :: (signsL b ++ 32 :: signsL c)
  | _ => []
def textL (n : Nat) (ts : List (List Nat)) : List Nat := joinC 10 ((headW ++ signsL n) :: ts.map rowL)
theorem allN_map {α β : Type} {f : α → Option β} {g : β → α} : ∀ {l : List β}, (∀ x ∈ l, f (g x) = some x) → allN f (l.map g) = some l
  | [], _ => rfl
  | x :: r, h => by
    show (f (g x)).bind _ = _
    rw [h x (.head _)]
    show (allN f (r.map g)).map _ = _
    rw [allN_map fun y hy => h y (.tail _ hy)]
    rfl
theorem row_back {t : List Nat} (h : ∃ a b c, t = [a, b, c] ∧ a < 1000 ∧ b < 1000 ∧ c < 1000) : tieL (rowL t) = some t ∧ 10 ∉ rowL t := by
  obtain ⟨a, b, c, rfl, ha, hb, hc⟩ := h
  refine ⟨tieL_of (signs_num a ha) (signs_num b hb) (signs_num c hc), fun m => ?_⟩
  have f : ∀ n < 1000, 10 ∉ signsL n := fun n hn => numL_free (signs_num n hn) (by decide)
  rcases List.mem_append.mp m with m | m
  · exact f a ha m
  · rcases List.mem_cons.mp m with m | m
    · cases m
    · rcases List.mem_append.mp m with m | m
      · exact f b hb m
      · rcases List.mem_cons.mp m with m | m
        · cases m
        · exact f c hc m
theorem text_split {n : Nat} {ts : List (List Nat)} (hn : n < 1000) (ht : ∀ t ∈ ts, ∃ a b c, t = [a, b, c] ∧ a < 1000 ∧ b < 1000 ∧ c < 1000) : splitC 10 (textL n ts) = (headW ++ signsL n) :: ts.map rowL := by
  refine splitC_join (List.cons_ne_nil _ _) fun p hp => ?_
  rcases List.mem_cons.mp hp with rfl | hp
  · intro m
    rcases List.mem_append.mp m with m | m
    · revert m; decide
    · exact numL_free (signs_num n hn) (by decide) m
  · obtain ⟨t, h, rfl⟩ := List.mem_map.mp hp
    exact (row_back (ht t h)).2
theorem parse_text {n : Nat} {ts : List (List Nat)} (hn : n < 1000) (ht : ∀ t ∈ ts, ∃ a b c, t = [a, b, c] ∧ a < 1000 ∧ b < 1000 ∧ c < 1000) : parse (textL n ts) = some (n, ts) := by
  unfold parse
  rw [text_split hn ht]
  show (if (headW ++ signsL n).take 7 = headW then (numL ((headW ++ signsL n).drop 7)).bind fun n => (allN tieL (ts.map rowL)).map fun ts => (n, ts) else none) = _
  rw [List.take_left' (by rfl), if_pos rfl, List.drop_left' (by rfl), signs_num n hn, allN_map fun t h => (row_back (ht t h)).1]
  rfl
end My
set_option Elab.async false
set_option linter.all false
set_option maxRecDepth 100000
set_option maxHeartbeats 4000000
namespace My
open PySem PySem.Builtin.Str
def ls (x : Str) : List Nat := x.cps.toList
def ofL (l : List Nat) : Str := ⟨l.toArray⟩
theorem ls_ofL (l : List Nat) : ls (ofL l) = l := rfl
theorem ofL_ls (x : Str) : ofL (ls x) = x := rfl
theorem ls_inj {x y : Str} (h : ls x = ls y) : x = y := by rw [← ofL_ls x, h, ofL_ls]
theorem ls_app (x y : Str) : ls (x ++ y) = ls x ++ ls y := by
  show (x.cps ++ y.cps).toList = x.cps.toList ++ y.cps.toList
  rw [Array.toList_append]
theorem ls_len (x : Str) : (ls x).length = x.length := Array.length_toList
theorem ls_join (c : Nat) : ∀ ps : List Str, ls (Str.join ⟨#[c]⟩ ps) = joinC c (ps.map ls)
  | [] => rfl
  | [p] => rfl
  | p :: q :: r => by
    show ls (p ++ ⟨#[c]⟩ ++ Str.join ⟨#[c]⟩ (q :: r)) = ls p ++ c :: joinC c ((q :: r).map ls)
    rw [ls_app, ls_app, ls_join c (q :: r), List.append_assoc]
    rfl
theorem split_ne (x y : Str) : Txt.split x y ≠ [] := by
  unfold Txt.split
  split
  · exact List.cons_ne_nil _ _
  · split
    · exact List.cons_ne_nil _ _
    · rw [StrLaws.partsBetween_eq]
      obtain ⟨p, r, e⟩ := StrLaws.partsFrom_ne x y.length 0 (occurrences x y 0 x.length (x.length + 1))
      rw [e]
      exact List.cons_ne_nil _ _
theorem ls_split (x : Str) (c : Nat) : (Txt.split x ⟨#[c]⟩).map ls = splitC c (ls x) := by
  have h1 : joinC c ((Txt.split x ⟨#[c]⟩).map ls) = ls x := by rw [← ls_join, StrLaws.join_split]
  rw [← h1]
  refine (splitC_join (fun z => split_ne x ⟨#[c]⟩ (List.map_eq_nil_iff.mp z)) fun p hp => ?_).symm
  obtain ⟨q, hq, rfl⟩ := List.mem_map.mp hp
  exact StrLaws.split_free x c q hq
theorem split_eq (x : Str) (c : Nat) : Txt.split x ⟨#[c]⟩ = (splitC c (ls x)).map ofL := by
  rw [← ls_split, List.map_map]
  exact (List.map_id _).symm
theorem ls_sub (x : Str) (i j : Nat) : ls (strSub x i j) = ((ls x).drop i).take (j - i) := StrLaws.strSub_toList x i j
theorem at_one (x : Str) (c i : Nat) : StrLaws.At x ⟨#[c]⟩ x.length i ↔ (ls x)[i]? = some c := StrLaws.subAt_one x c i
theorem before_none {c : Nat} : ∀ {l : List Nat}, c ∉ l → before c l = l
  | [], _ => rfl
  | a :: l, h => by
    have h1 : a ≠ c := fun e => h (e ▸ .head _)
    have ih := before_none (l := l) fun e => h (.tail _ e)
    unfold before at ih ⊢
    rw [List.takeWhile_cons, if_pos (by simpa using h1), ih]
theorem part_eq (x : Str) (c : Nat) : ls (Txt.partition x ⟨#[c]⟩).1 = before c (ls x) ∧ ls (Txt.partition x ⟨#[c]⟩).2.2 = after c (ls x) := by
  unfold Txt.partition
  rcases StrLaws.occ_head x ⟨#[c]⟩ 1 (Nat.le_refl _) with ⟨e, hn⟩ | ⟨i, r, e, hA, hn⟩
  · rw [e]
    have hf : c ∉ ls x := fun m => by
      obtain ⟨i, hi⟩ := List.getElem?_of_mem m
      exact hn i ((at_one x c i).mpr hi)
    refine ⟨?_, (after_none hf).symm⟩
    exact (before_none hf).symm
  · rw [e]
    have hi := (at_one x c i).mp hA
    have hlt : i < (ls x).length := (List.getElem?_eq_some_iff.mp hi).1
    have hnb : c ∉ (ls x).take i := fun m => by
      obtain ⟨k, hk⟩ := List.getElem?_of_mem m
      have hk1 : k < i := by
        have := (List.getElem?_eq_some_iff.mp hk).1
        rw [List.length_take] at this
        omega
      rw [List.getElem?_take_of_lt hk1] at hk
      exact hn k hk1 ((at_one x c k).mpr hk)
    have hx : ls x = (ls x).take i ++ c :: (ls x).drop (i + 1) := by
      have h1 := List.take_append_drop i (ls x)
      rw [List.drop_eq_getElem_cons hlt] at h1
      rw [(List.getElem?_eq_some_iff.mp hi).2] at h1
      exact h1.symm
    show ls (strSub x 0 i) = _ ∧ ls (strSub x (i + 1) x.length) = _
    rw [ls_sub, ls_sub, ← ls_len]
    constructor
    · conv => rhs; rw [hx]
      rw [before_app _ hnb]
      rfl
    · conv => rhs; rw [hx]
      rw [after_app _ hnb, List.take_of_length_le (by rw [List.length_drop]; omega)]
theorem starts_eq (x y : Str) : Txt.startswith x y = decide ((ls x).take (ls y).length = ls y) := by
  unfold Txt.startswith
  rw [StrLaws.subAt_eq, Nat.zero_add, List.drop_zero, Bool.eq_iff_iff, Bool.and_eq_true, decide_eq_true_iff, decide_eq_true_iff, beq_iff_eq, ls_len]
  constructor
  · exact fun h => h.2
  · intro h
    refine ⟨?_, h⟩
    have := congrArg List.length h
    rw [List.length_take, ls_len, ls_len] at this
    omega
theorem slice_clampL (u : Option Int) (len i : Nat) : strSliceIndices (some (i : Int)) u 1 len = strSliceIndices (some ((min i len : Nat) : Int)) u 1 len := by
  have a : ¬ ((i : Int) < 0) := by omega
  have b : ¬ (((min i len : Nat) : Int) < 0) := by omega
  have e : max (0 : Int) (min (i : Int) (len : Int)) = max (0 : Int) (min ((min i len : Nat) : Int) (len : Int)) := by omega
  simp only [strSliceIndices, a, b, if_false]
  simp [e]
theorem slice_clampU (l : Option Int) (len j : Nat) : strSliceIndices l (some (j : Int)) 1 len = strSliceIndices l (some ((min j len : Nat) : Int)) 1 len := by
  have a : ¬ ((j : Int) < 0) := by omega
  have b : ¬ (((min j len : Nat) : Int) < 0) := by omega
  have e : max (0 : Int) (min (j : Int) (len : Int)) = max (0 : Int) (min ((min j len : Nat) : Int) (len : Int)) := by omega
  simp only [strSliceIndices, a, b, if_false]
  simp [e]
theorem ls_from (x : Str) (i : Nat) : ls (StrLaws.sliceText x (some (i : Int)) none) = (ls x).drop i := by
  have h : StrLaws.sliceText x (some (i : Int)) none = StrLaws.sliceText x (some ((min i x.length : Nat) : Int)) none := by
    unfold StrLaws.sliceText
    rw [slice_clampL]
  have hl := ls_len x
  unfold ls at hl
  rw [h, StrLaws.sliceText_from ⟨by omega, by rw [hl]; omega⟩]
  show (x.cps.toList.drop _).take _ = x.cps.toList.drop i
  rw [List.take_of_length_le (by rw [List.length_drop]; omega)]
  by_cases c : i ≤ x.length
  · rw [show (((min i x.length : Nat) : Int)).toNat = i by omega]
  · rw [List.drop_of_length_le (by omega), List.drop_of_length_le (by omega)]
theorem ls_to (x : Str) (j : Nat) : ls (StrLaws.sliceText x none (some (j : Int))) = (ls x).take j := by
  have h : StrLaws.sliceText x none (some (j : Int)) = StrLaws.sliceText x none (some ((min j x.length : Nat) : Int)) := by
    unfold StrLaws.sliceText
    rw [slice_clampU]
  have hl := ls_len x
  unfold ls at hl
  rw [h, StrLaws.sliceText_to ⟨by omega, by rw [hl]; omega⟩]
  show (x.cps.toList.drop 0).take _ = x.cps.toList.take j
  rw [List.drop_zero]
  rw [List.take_eq_take_iff]
  omega
end My
set_option Elab.async false
set_option linter.all false
set_option maxRecDepth 100000
set_option maxHeartbeats 4000000
namespace My
open PySem L2 PySem.Spec PyProof.Rows
def asc (x : Str) : Prop := ∀ c ∈ ls x, c < 128
theorem asc_all {x : Str} (h : asc x) : x.cps.all (· < 128) = true := by
  rw [← Array.all_toList, List.all_eq_true]
  exact fun c hc => decide_eq_true (h c hc : c < 128)
theorem asc_big {x : Str} (h : asc x) : ∀ c ∈ x.cps.toList, c < 16 ^ 8 := fun c hc => Nat.lt_trans (h c hc) (by decide)
def nI (ns : List Nat) : List Int := ns.map fun n : Nat => (n : Int)
def nT (ts : List (List Nat)) : List (List Int) := ts.map nI
def placesL (r : List Nat) : Option Nat := if r.take 7 = headW then numL (r.drop 7) else none
theorem parse_eq (t : List Nat) : parse t = (placesL ((splitC 10 t).headD [])).bind fun n => (allN tieL (splitC 10 t).tail).map fun ts => (n, ts) := by
  unfold parse placesL
  split
  · rfl
  · rfl
def spNumber (A : Er) : Sp := fun vs H Q E => ∃ w : Str, vs = [.str w] ∧ w.length ≤ 1000 ∧ asc w ∧ (∀ n, numL (ls w) = some n → ∀ H', Same H H' → Q (.int (n : Int)) H') ∧ (numL (ls w) = none → ∀ H', Same H H' → E (.ref A.BadText) none H')
def spPlaces (A : Er) : Sp := fun vs H Q E => ∃ w : Str, vs = [.str w] ∧ w.length ≤ 1000 ∧ asc w ∧ (∀ n, placesL (ls w) = some n → ∀ H', Same H H' → Q (.int (n : Int)) H') ∧ (placesL (ls w) = none → ∀ H', Same H H' → E (.ref A.BadText) none H')
def spTieOf (A : Er) : Sp := fun vs H Q E => ∃ w : Str, vs = [.str w] ∧ w.length ≤ 1000 ∧ asc w ∧ (∀ ns, tieL (ls w) = some ns → ∀ l H', H l = none → Same H H' → H' l = some (.tup ((nI ns).map .int)) → Q (.ref l) H') ∧ (tieL (ls w) = none → ∀ H', Same H H' → E (.ref A.BadText) none H')
def spRead (A : Er) : Sp := fun vs H Q E => ∃ t : Str, vs = [.str t] ∧ t.length ≤ 1000 ∧ asc t ∧ (∀ n ts, parse (ls t) = some (n, ts) → webOk n (nT ts) = true → ∀ v H', Same H H' → Dat H' (webD n (nT ts)) v → Q v H') ∧
  ((∀ n ts, parse (ls t) = some (n, ts) → webOk n (nT ts) = false) → ∀ m H', Same H H' → E (.ref A.BadText) m H')
def iN (ns : List Int) : List Nat := ns.map Int.toNat
def iT (ts : List (List Int)) : List (List Nat) := ts.map iN
def txtS (n : Int) (ts : List (List Int)) : Str := ofL (textL n.toNat (iT ts))
def spWritten (A : Er) : Sp := fun vs H Q E => ∃ (v : V) (n : Int) (ts : List (List Int)), vs = [v] ∧ Dat H (webD n ts) v ∧ WebIn n ts ∧ (webOk n ts = true → ∀ H', Same H H' → Q (.str (txtS n ts)) H') ∧ (webOk n ts = false → ∀ H', Same H H' → E (.ref A.BadWeb) none H')
def spLText : Sp := fun vs H Q _ => ∃ (v : V) (n : Int) (ts : List (List Int)), vs = [v] ∧ Dat H (webD n ts) v ∧ WebIn n ts ∧ webOk n ts = true ∧ ∀ H', Same H H' → Q (.str (txtS n ts)) H'
def spLNumbers (K : PySem.W.Frag) : Sp := fun vs H Q _ => ∃ (l : Addr) (ws : List Str), vs = [.ref l] ∧ SqL K H l (ws.map .str) ∧ ws.length ≤ 3000 ∧ (∀ w ∈ ws, w.length ≤ 1000 ∧ asc w) ∧
  (∀ ns, allN numL (ws.map ls) = some ns → ∀ p H', H p = none → Same H H' → H' p = some (.tup ((nI ns).map .int)) → Q (.ref p) H') ∧ (allN numL (ws.map ls) = none → ∀ H', Same H H' → Q .non H')
def spLTried : Sp := fun vs H Q _ => ∃ t : Str, vs = [.str t] ∧ t.length ≤ 1000 ∧ asc t ∧ (∀ n ts, parse (ls t) = some (n, ts) → ∀ v H', Same H H' → Dat H' (webD n (nT ts)) v → Q v H') ∧ (parse (ls t) = none → ∀ H', Same H H' → Q .non H')
def spLIsWeb : Sp := fun vs H Q _ => ∃ (v : V) (n : Int) (ts : List (List Int)), vs = [v] ∧ Dat H (webD n ts) v ∧ WebIn n ts ∧ ∀ H', Same H H' → Q (.bl (webOk n ts)) H'
theorem bt_all : bootBuiltins ("all" : Str) = some (Value.builtin "all") := by rfl
theorem ifT {b : Bool} {X Y : Prop} (hb : b = true) (h : X) : if b = true then X else Y := by rw [if_pos hb]; exact h
theorem ifF {b : Bool} {X Y : Prop} (hb : b = false) (h : Y) : if b = true then X else Y := by rw [if_neg (by rw [hb]; exact Bool.false_ne_true)]; exact h
theorem datL_bools {H : Hp} : ∀ {bs : List Bool} {ys : List V}, DatL H (bs.map PyData.bool) ys → ys = bs.map V.bl
  | [], _, h => h.unnil
  | b :: bs, _, h => by
    obtain ⟨y, ys, rfl, r, t⟩ := DatL.uncons h
    rw [r.bool_of, datL_bools t]
    rfl
theorem datL_strs {H : Hp} : ∀ {ts : List Str} {ys : List V}, DatL H (ts.map PyData.str) ys → ys = ts.map V.str
  | [], _, h => h.unnil
  | b :: bs, _, h => by
    obtain ⟨y, ys, rfl, r, t⟩ := DatL.uncons h
    rw [r.str_of, datL_strs t]
    rfl
theorem fig_ls : ls ("0123456789" : Str) = [48, 49, 50, 51, 52, 53, 54, 55, 56, 57] := by decide +kernel
theorem head_ls : ls ("places " : Str) = headW := by decide +kernel
theorem nl_str : ("\n" : Str) = ⟨#[10]⟩ := by decide +kernel
theorem da_str : ("-" : Str) = ⟨#[45]⟩ := by decide +kernel
theorem sp_str : (" " : Str) = ⟨#[32]⟩ := by decide +kernel
theorem isD_mem (c : Nat) : decide (c ∈ ([48, 49, 50, 51, 52, 53, 54, 55, 56, 57] : List Nat)) = isD c := by
  unfold isD
  rw [Bool.eq_iff_iff, decide_eq_true_iff, Bool.and_eq_true, decide_eq_true_iff, decide_eq_true_iff]
  simp only [List.mem_cons, List.not_mem_nil, or_false]
  omega
theorem fig_in (c : Nat) : (!(Builtin.Str.occurrences ("0123456789" : Str) ⟨#[c]⟩ 0 ("0123456789" : Str).length 1).isEmpty) = isD c := by
  rw [StrLaws.found_one]
  show decide (c ∈ ls ("0123456789" : Str)) = _
  rw [fig_ls, isD_mem]
theorem int_ls (m : Nat) : ls (Str.ofString (toString ((m : Nat) : Int))) = signsL m := PySem.W.KIN.signs_num m
theorem int_len {m : Nat} (h : m < 1000) : (Str.ofString (toString ((m : Nat) : Int))).length ≤ 3 := by
  rw [← ls_len, int_ls]
  exact signs_len m h
theorem digs_val {w : Str} (h : ∀ c ∈ ls w, 48 ≤ c ∧ c ≤ 57) (h1 : 1 ≤ w.length) (h3 : w.length ≤ 3) : intText? w = some ((valL (ls w) : Nat) : Int) :=
  PySem.intText_digits h (fun z => by have := ls_len w; rw [show ls w = [] from z] at this; simp at this; omega) (by omega)
theorem all_digs {w : Str} : ((List.range w.length).map fun i => isD ((ls w).getD i 0)).all id = true ↔ ∀ c ∈ ls w, 48 ≤ c ∧ c ≤ 57 := by
  rw [List.all_map, List.all_eq_true]
  constructor
  · intro h c hc
    obtain ⟨i, hi, rfl⟩ := List.getElem_of_mem hc
    have := h i (List.mem_range.mpr (by rw [← ls_len]; exact hi))
    rw [show (id ∘ fun i => isD ((ls w).getD i 0)) i = isD ((ls w).getD i 0) from rfl, List.getD_eq_getElem?_getD, List.getElem?_eq_getElem hi] at this
    exact isD_iff.mp this
  · intro h i hi
    have hi' := List.mem_range.mp hi
    rw [← ls_len] at hi'
    show isD ((ls w).getD i 0) = true
    rw [List.getD_eq_getElem?_getD, List.getElem?_eq_getElem hi']
    exact isD_iff.mpr (h _ (List.getElem_mem hi'))
theorem before_sub {k : Nat} {l : List Nat} : (∀ c ∈ before k l, c ∈ l) ∧ (before k l).length ≤ l.length := by
  have e : before k l ++ l.dropWhile (fun x => x != k) = l := List.takeWhile_append_dropWhile
  constructor
  · intro c hc
    rw [← e]
    exact List.mem_append_left _ hc
  · have := congrArg List.length e
    rw [List.length_append] at this
    omega
theorem after_sub {k : Nat} {l : List Nat} : (∀ c ∈ after k l, c ∈ l) ∧ (after k l).length ≤ l.length := by
  have e : before k l ++ l.dropWhile (fun x => x != k) = l := List.takeWhile_append_dropWhile
  have h1 : ∀ c ∈ after k l, c ∈ l.dropWhile (fun x => x != k) := fun c hc => List.mem_of_mem_drop hc
  have h2 : (after k l).length ≤ (l.dropWhile (fun x => x != k)).length := by unfold after; rw [List.length_drop]; omega
  constructor
  · intro c hc
    rw [← e]
    exact List.mem_append_right _ (h1 c hc)
  · have := congrArg List.length e
    rw [List.length_append] at this
    omega
theorem str_sub {x y : Str} {l : List Nat} (hy : ls y = l) (h : (∀ c ∈ l, c ∈ ls x) ∧ l.length ≤ (ls x).length) (ha : asc x) (hl : x.length ≤ 1000) : y.length ≤ 1000 ∧ asc y := by
  subst hy
  rw [ls_len, ls_len] at h
  exact ⟨by omega, fun c hc => ha c (h.1 c hc)⟩
def intS (m : Nat) : Str := Str.ofString (toString ((m : Nat) : Int))
theorem head_txt (N : Nat) : ls (("places " : Str) ++ intS N) = headW ++ signsL N := by rw [ls_app, head_ls]; unfold intS; rw [int_ls]
def rowS (a b c : Nat) : Str := intS a ++ (("-" : Str) ++ (intS b ++ ((" " : Str) ++ intS c)))
theorem row_txt (a b c : Nat) : ls (rowS a b c) = rowL [a, b, c] := by
  unfold rowS
  rw [ls_app, ls_app, ls_app, ls_app, da_str, sp_str]
  unfold intS
  rw [int_ls, int_ls, int_ls]
  rfl
theorem row_len {a b c : Nat} (ha : a < 1000) (hb : b < 1000) (hc : c < 1000) : (rowS a b c).length ≤ 11 := by
  have h1 : (intS a).length ≤ 3 := int_len ha
  have h2 : (intS b).length ≤ 3 := int_len hb
  have h3 : (intS c).length ≤ 3 := int_len hc
  have h4 : (("-" : Str)).length = 1 := by decide +kernel
  have h5 : ((" " : Str)).length = 1 := by decide +kernel
  unfold rowS
  rw [Str.length_append, Str.length_append, Str.length_append, Str.length_append]
  omega
theorem head_len {N : Nat} (h : N < 1000) : (("places " : Str) ++ intS N).length ≤ 10 := by
  have h1 : (intS N).length ≤ 3 := int_len h
  have h2 : (("places " : Str)).length = 7 := by decide +kernel
  rw [Str.length_append]
  omega
theorem join_txt (ps : List Str) : Txt.join ("\n" : Str) ps = ofL (joinC 10 (ps.map ls)) := by
  unfold Txt.join
  rw [StrLaws.glued_eq_join, nl_str]
  exact ls_inj (by rw [ls_join, ls_ofL])
theorem txt_of {n : Int} {ts : List (List Int)} {ps : List Str} (h : ps.map ls = (headW ++ signsL n.toNat) :: (iT ts).map rowL) : Txt.join ("\n" : Str) ps = txtS n ts := by
  rw [join_txt, h]
  rfl
theorem join_ok {ps : List Str} (h1 : ∀ y ∈ ps, y.length ≤ 11) (h2 : ps.length ≤ 1001) : JoinOk ("\n" : Str) ps = true := by
  unfold JoinOk
  have h3 : (("\n" : Str)).length = 1 := by decide +kernel
  rw [StrLaws.joinFits h1 (by rw [h3]; omega)]
  rfl
theorem tie_nat {n : Int} {t : List Int} (h : ∃ a b c : Int, t = [a, b, c] ∧ 0 ≤ b ∧ b ≤ n - 1 ∧ 0 ≤ a ∧ a ≤ b - 1 ∧ 1 ≤ c ∧ c ≤ 100) (hn : n ≤ 8) : ∃ a b c : Nat, t = [(a : Int), (b : Int), (c : Int)] ∧ a < 1000 ∧ b < 1000 ∧ c < 1000 := by
  obtain ⟨a, b, c, rfl, h1, h2, h3, h4, h5, h6⟩ := h
  obtain ⟨a, rfl⟩ : ∃ m : Nat, a = m := ⟨a.toNat, by omega⟩
  obtain ⟨b, rfl⟩ : ∃ m : Nat, b = m := ⟨b.toNat, by omega⟩
  obtain ⟨c, rfl⟩ : ∃ m : Nat, c = m := ⟨c.toNat, by omega⟩
  exact ⟨a, b, c, rfl, by omega, by omega, by omega⟩
theorem nI_iN {t : List Int} (h : ∀ k ∈ t, 0 ≤ k) : nI (iN t) = t := by
  unfold nI iN
  rw [List.map_map]
  refine (List.map_congr_left fun k hk => ?_).trans (List.map_id _)
  exact Int.toNat_of_nonneg (h k hk)
theorem nT_iT {ts : List (List Int)} (h : ∀ t ∈ ts, ∀ k ∈ t, 0 ≤ k) : nT (iT ts) = ts := by
  unfold nT iT
  rw [List.map_map]
  exact (List.map_congr_left fun t ht => nI_iN (h t ht)).trans (List.map_id _)
theorem mro_own {K : PySem.W.Frag} {C : Addr} {bm : List Value} {new : String} (q : PySem.W.excIn K C bm new = true) : PySem.W.mroIn K C (.ref C) = some true := by
  unfold PySem.W.excIn at q
  split at q
  · rename_i dd cd sl ho
    split at q
    · rename_i C2 bm2 k0 k1 k2 k3 n k5 hm hs
      rw [Bool.and_eq_true, Bool.and_eq_true, Bool.and_eq_true, Bool.and_eq_true, Bool.and_eq_true] at q
      obtain ⟨⟨⟨⟨⟨q1, _⟩, _⟩, _⟩, _⟩, _⟩ := q
      have e1 := beq_iff_eq.mp q1
      subst e1
      unfold PySem.W.mroIn PySem.W.clsIn
      rw [ho]
      simp [hm]
    · cases q
  · cases q
theorem lc_inP {J : It} {g : TG} {te : TE} {H1 : Hp} {σ0 : L2.St} {QD : Addr → Hp → Prop} (S : Nat → L2.St → Prop) (n : Nat) (d : Nat → PyData) (s0 : S 0 σ0) (hgo : ∀ i H2, i < n → Same H1 H2 → J.go i H2) (hstop : ∀ H2, Same H1 H2 → J.stop n H2) (hn : n ≤ sizeLine)
    (step : ∀ D i x σ2 H2 H3 (N : V → L2.St → Hp → Prop), i < n → Same H1 H2 → (∃ ys, H2 D = some (.lst ys)) → S i σ2 → J.yld i H2 x H3 → (∀ y σ4 H6, S (i + 1) σ4 → Same H2 H6 → Dat (mask D H6) (d i) y → N y σ4 H6) → g x σ2 H3 fun σ4 H4 => te σ4 H4 fun y H6 => N y σ4 H6)
    (fin : ∀ D ys H2, (∃ σ, S n σ) → H1 D = none → Same H1 H2 → H2 D = some (.lst ys) → DatL (mask D H2) ((List.range n).map d) ys → QD D H2) :
    ∀ D, H1 D = none → ∃ W : Nat → Nat → L2.St → Hp → Prop, (∃ m, W 0 m σ0 (upd H1 D (.lst []))) ∧
      ∀ i m σ2 H2, W i m σ2 H2 → (J.stop i H2 ∧ QD D H2) ∨ (J.go i H2 ∧ ∀ x H3, J.yld i H2 x H3 → g x σ2 H3 fun σ4 H4 => tYes σ4 H4 fun b H5 =>
        if b = true then te σ4 H5 fun y H6 => ∃ xs, H6 D = some (.lst xs) ∧ xs.length < sizeLine ∧ ∃ m', m' < m ∧ W (i + 1) m' σ4 (upd H6 D (.lst (xs ++ [y]))) else ∃ m', m' < m ∧ W (i + 1) m' σ4 H5) := by
  intro D hD
  refine ⟨fun i m σ2 H2 => i + m = n ∧ S i σ2 ∧ Same H1 H2 ∧ ∃ ys, H2 D = some (.lst ys) ∧ DatL (mask D H2) ((List.range i).map d) ys, ⟨n, by omega, s0, same_new hD, [], upd_same, .nil⟩, ?_⟩
  intro i m σ2 H2 ⟨hi, hs, e, ys, hy, dl⟩
  by_cases c : i < n
  · refine .inr ⟨hgo i H2 c e, fun x H3 yl => ?_⟩
    refine step D i x σ2 H2 H3 (fun y σ4 H6 => ∃ xs, H6 D = some (.lst xs) ∧ xs.length < sizeLine ∧ ∃ m', m' < m ∧ _) c e ⟨ys, hy⟩ hs yl fun y σ4 H6 s4 e6 dy => ?_
    have hl := dl.length
    rw [List.length_map, List.length_range] at hl
    refine ⟨ys, e6 _ _ hy, by omega, m - 1, by omega, by omega, s4, (e.trans e6).put hD, ys ++ [y], upd_same, ?_⟩
    rw [mask_upd, List.range_succ, List.map_append]
    exact (dl.mono (mask_mono e6)).snoc dy
  · have hin : i = n := by omega
    subst hin
    exact .inl ⟨hstop H2 e, fin D ys H2 ⟨σ2, hs⟩ hD e hy dl⟩
theorem all_none {α β : Type} {f : α → Option β} : ∀ {l : List α} {x : α}, x ∈ l → f x = none → allN f l = none
  | a :: l, x, h, hx => by
    rcases List.mem_cons.mp h with rfl | h
    · unfold allN; rw [hx]; rfl
    · unfold allN
      rw [all_none h hx]
      cases f a <;> rfl
theorem all_some {f : List Nat → Option (List Nat)} : ∀ {l : List (List Nat)}, (∀ j < l.length, (f (l.getD j [])).isSome = true) → ∃ ns, allN f l = some ns ∧ (List.range l.length).map (fun i => tieD (nI ((f (l.getD i [])).getD []))) = (nT ns).map tieD
  | [], _ => ⟨[], rfl, rfl⟩
  | a :: l, h => by
    obtain ⟨ns, h1, h2⟩ := all_some (f := f) (l := l) fun j hj => h (j + 1) (by simpa using hj)
    have h0 := h 0 (by simp)
    cases ha : f a with
    | none => rw [show (a :: l).getD 0 [] = a from rfl, ha] at h0; cases h0
    | some n =>
      refine ⟨n :: ns, by unfold allN; rw [ha, h1]; rfl, ?_⟩
      rw [List.length_cons, List.range_succ_eq_map, List.map_cons, List.map_map]
      show tieD (nI ((f a).getD [])) :: _ = tieD (nI n) :: (nT ns).map tieD
      rw [ha, ← h2]
      rfl
theorem all_three {l : List (List Nat)} {ns : List (List Nat)} (h : allN tieL l = some ns) : ns.length = l.length ∧ ∀ t ∈ ns, ∃ a b c, t = [a, b, c] ∧ a < 1000 ∧ b < 1000 ∧ c < 1000 := by
  refine ⟨allN_len h, ?_⟩
  induction l generalizing ns with
  | nil => cases h; exact fun t ht => nomatch ht
  | cons x l ih =>
    unfold allN at h
    cases hx : tieL x with
    | none => rw [hx] at h; cases h
    | some n =>
      cases hl : allN tieL l with
      | none => rw [hx, hl] at h; cases h
      | some ms =>
        rw [hx, hl] at h
        cases h
        intro t ht
        rcases List.mem_cons.mp ht with rfl | ht
        · obtain ⟨_, _, _, a, b, c, _, h1, h2, h3, rfl⟩ := tieL_some hx
          exact ⟨a, b, c, rfl, numL_lt h1, numL_lt h2, numL_lt h3⟩
        · exact ih hl t ht
theorem webIn_nat {n : Nat} {ts : List (List Nat)} (hn : n < 1000) (hl : ts.length ≤ 1000) (ht : ∀ t ∈ ts, ∃ a b c, t = [a, b, c] ∧ a < 1000 ∧ b < 1000 ∧ c < 1000) : WebIn n (nT ts) := by
  refine ⟨by unfold small; omega, by unfold nT; rw [List.length_map]; exact hl, fun t h => ?_⟩
  obtain ⟨u, hu, rfl⟩ := List.mem_map.mp h
  obtain ⟨a, b, c, rfl, h1, h2, h3⟩ := ht u hu
  refine ⟨(by show 3 ≤ 100; decide), fun k hk => ?_⟩
  have : k = a ∨ k = b ∨ k = c := by simpa [nI] using hk
  unfold small
  omega
theorem split_small {t : Str} (hl : t.length ≤ 1000) (ha : asc t) : ∀ r ∈ splitC 10 (ls t), (ofL r).length ≤ 1000 ∧ asc (ofL r) := fun r hr => by
  have hm : ∀ {ps : List (List Nat)} {p : List Nat}, p ∈ ps → (∀ c ∈ p, c ∈ joinC 10 ps) ∧ p.length ≤ (joinC 10 ps).length := by
    intro ps
    induction ps with
    | nil => exact fun h => nomatch h
    | cons x l ih =>
      intro p h
      cases l with
      | nil =>
        rw [List.mem_singleton.mp h]
        exact ⟨fun c hc => hc, Nat.le_refl _⟩
      | cons y l =>
        show (∀ c ∈ p, c ∈ x ++ 10 :: joinC 10 (y :: l)) ∧ p.length ≤ (x ++ 10 :: joinC 10 (y :: l)).length
        rw [List.length_append, List.length_cons]
        rcases List.mem_cons.mp h with rfl | h
        · exact ⟨fun c hc => List.mem_append_left _ hc, by omega⟩
        · obtain ⟨i1, i2⟩ := ih h
          exact ⟨fun c hc => List.mem_append_right _ (.tail _ (i1 c hc)), by omega⟩
  have := hm hr
  rw [join_splitC] at this
  exact str_sub (x := t) (ls_ofL r) this ha hl
theorem split_many {t : Str} (hl : t.length ≤ 1000) : (splitC 10 (ls t)).length ≤ 1001 := by
  have h : ∀ l : List Nat, (splitC 10 l).length ≤ l.length + 1 := by
    intro l
    induction l with
    | nil => exact Nat.le_refl _
    | cons a l ih =>
      rw [splitC_cons]
      split
      · rw [List.length_cons, List.length_cons]; omega
      · cases z : splitC 10 l with
        | nil => exact absurd z (splitC_ne 10 l)
        | cons x r =>
          rw [z] at ih
          show r.length + 1 ≤ _
          rw [List.length_cons] at ih ⊢
          omega
  have := h (ls t)
  rw [ls_len] at this
  omega
theorem split_smallC (c : Nat) {t : Str} (hl : t.length ≤ 1000) (ha : asc t) : ∀ r ∈ splitC c (ls t), (ofL r).length ≤ 1000 ∧ asc (ofL r) := fun r hr => by
  have hm : ∀ {ps : List (List Nat)} {p : List Nat}, p ∈ ps → (∀ x ∈ p, x ∈ joinC c ps) ∧ p.length ≤ (joinC c ps).length := by
    intro ps
    induction ps with
    | nil => exact fun h => nomatch h
    | cons x l ih =>
      intro p h
      cases l with
      | nil =>
        rw [List.mem_singleton.mp h]
        exact ⟨fun c hc => hc, Nat.le_refl _⟩
      | cons y l =>
        show (∀ z ∈ p, z ∈ x ++ c :: joinC c (y :: l)) ∧ p.length ≤ (x ++ c :: joinC c (y :: l)).length
        rw [List.length_append, List.length_cons]
        rcases List.mem_cons.mp h with rfl | h
        · exact ⟨fun c hc => List.mem_append_left _ hc, by omega⟩
        · obtain ⟨i1, i2⟩ := ih h
          exact ⟨fun c hc => List.mem_append_right _ (.tail _ (i1 c hc)), by omega⟩
  have := hm hr
  rw [join_splitC] at this
  exact str_sub (x := t) (ls_ofL r) this ha hl
theorem split_manyC (c : Nat) {t : Str} (hl : t.length ≤ 1000) : (splitC c (ls t)).length ≤ 1001 := by
  have h : ∀ l : List Nat, (splitC c l).length ≤ l.length + 1 := by
    intro l
    induction l with
    | nil => exact Nat.le_refl _
    | cons a l ih =>
      rw [splitC_cons]
      split
      · rw [List.length_cons, List.length_cons]; omega
      · cases z : splitC c l with
        | nil => exact absurd z (splitC_ne c l)
        | cons x r =>
          rw [z] at ih
          show r.length + 1 ≤ _
          rw [List.length_cons] at ih ⊢
          omega
  have := h (ls t)
  rw [ls_len] at this
  omega
theorem allN_app {α β : Type} {f : α → Option β} : ∀ {l : List α} {x : α} {ns : List β} {n : β}, allN f l = some ns → f x = some n → allN f (l ++ [x]) = some (ns ++ [n])
  | [], x, ns, n, h, hx => by cases h; show (f x).bind _ = _; rw [hx]; rfl
  | a :: l, x, ns, n, h, hx => by
    unfold allN at h
    cases ha : f a with
    | none => rw [ha] at h; cases h
    | some b =>
      cases hl : allN f l with
      | none => rw [ha, hl] at h; cases h
      | some ms =>
        rw [ha, hl] at h
        cases h
        show (f a).bind _ = _
        rw [ha]
        show (allN f (l ++ [x])).map _ = _
        rw [allN_app hl hx]
        rfl
theorem word_num {w : Str} (h1 : 1 ≤ w.length) (h3 : w.length ≤ 3) (hd : ∀ c ∈ ls w, 48 ≤ c ∧ c ≤ 57) : numL (ls w) = if V.str (intS (valL (ls w))) = V.str w then some (valL (ls w)) else none := by
  have hl := ls_len w
  rw [num_back (by omega) (by omega) hd]
  have : (V.str (intS (valL (ls w))) = V.str w) ↔ (signsL (valL (ls w)) = ls w) := by
    constructor
    · intro z
      have := congrArg ls (V.str.inj z)
      unfold intS at this
      rw [int_ls] at this
      exact this
    · intro z
      refine congrArg V.str (ls_inj ?_)
      unfold intS
      rw [int_ls]
      exact z
  by_cases c : signsL (valL (ls w)) = ls w
  · rw [if_pos c, if_pos (this.mpr c)]
  · rw [if_neg c, if_neg (fun z => c (this.mp z))]
end My
set_option Elab.async false
set_option linter.all false
set_option maxRecDepth 100000
set_option maxHeartbeats 4000000
namespace My
open PySem L2 PySem.Spec PyProof.Rows
def top (i : Nat) : Stmt := PySem.Challenge.pw_rowlay_k40_texts.main.body.getD i (.Pass ⟨0, 0, 0, 0⟩)
abbrev s_is_whole : Stmt := top 10
abbrev s_is_within : Stmt := top 11
abbrev s_is_tie : Stmt := top 12
abbrev s_look_ties : Stmt := top 13
abbrev s_look_web : Stmt := top 14
abbrev s_written : Stmt := top 19
abbrev s_number_of : Stmt := top 20
abbrev s_places_of : Stmt := top 21
abbrev s_tie_of : Stmt := top 22
abbrev s_read : Stmt := top 23
abbrev s_law_cell : Stmt := top 25
abbrev s_law_mix : Stmt := top 26
abbrev s_law_web : Stmt := top 27
abbrev s_law_refusal : Stmt := top 28
abbrev s_law_text : Stmt := top 29
abbrev s_law_numbers : Stmt := top 30
abbrev s_law_tried : Stmt := top 31
abbrev s_law_is_web : Stmt := top 32
abbrev s_law : Stmt := top 33
abbrev bmV : List Value := [.type "ValueError", .type "Exception", .type "BaseException", .type "object"]
structure Ad where
  is_whole : Addr
  is_within : Addr
  is_tie : Addr
  look_ties : Addr
  look_web : Addr
  written : Addr
  number_of : Addr
  places_of : Addr
  tie_of : Addr
  read : Addr
  law_cell : Addr
  law_mix : Addr
  law_web : Addr
  law_refusal : Addr
  law_text : Addr
  law_numbers : Addr
  law_tried : Addr
  law_is_web : Addr
  law : Addr
  LayError : Addr
  BadWeb : Addr
  BadOrder : Addr
  BadSpot : Addr
  BadKind : Addr
  BadText : Addr
abbrev Ad.er (A : Ad) : Er := ⟨A.LayError, A.BadWeb, A.BadOrder, A.BadSpot, A.BadKind, A.BadText⟩
structure FD where
  is_whole : FuncData
  is_within : FuncData
  is_tie : FuncData
  look_ties : FuncData
  look_web : FuncData
  written : FuncData
  number_of : FuncData
  places_of : FuncData
  tie_of : FuncData
  read : FuncData
  law_cell : FuncData
  law_mix : FuncData
  law_web : FuncData
  law_refusal : FuncData
  law_text : FuncData
  law_numbers : FuncData
  law_tried : FuncData
  law_is_web : FuncData
  law : FuncData
structure Txt (K : PySem.W.Frag) (mg : Str → Option Value) (A : Ad) (D : FD) : Prop where
  F_is_whole : Fun K "is_whole" "is_whole" s_is_whole A.is_whole D.is_whole
  m_is_whole : mg "is_whole" = some (.ref A.is_whole)
  b_is_whole : Binds K D.is_whole ["value"] []
  F_is_within : Fun K "is_within" "is_within" s_is_within A.is_within D.is_within
  m_is_within : mg "is_within" = some (.ref A.is_within)
  b_is_within : Binds K D.is_within ["value", "least", "greatest"] []
  F_is_tie : Fun K "is_tie" "is_tie" s_is_tie A.is_tie D.is_tie
  m_is_tie : mg "is_tie" = some (.ref A.is_tie)
  b_is_tie : Binds K D.is_tie ["tie", "places"] []
  F_look_ties : Fun K "look_ties" "look_ties" s_look_ties A.look_ties D.look_ties
  m_look_ties : mg "look_ties" = some (.ref A.look_ties)
  b_look_ties : Binds K D.look_ties ["places", "ties"] []
  F_look_web : Fun K "look_web" "look_web" s_look_web A.look_web D.look_web
  m_look_web : mg "look_web" = some (.ref A.look_web)
  b_look_web : Binds K D.look_web ["web"] []
  F_written : Fun K "written" "written" s_written A.written D.written
  m_written : mg "written" = some (.ref A.written)
  b_written : Binds K D.written ["web"] []
  F_number_of : Fun K "number_of" "number_of" s_number_of A.number_of D.number_of
  m_number_of : mg "number_of" = some (.ref A.number_of)
  b_number_of : Binds K D.number_of ["word"] []
  F_places_of : Fun K "places_of" "places_of" s_places_of A.places_of D.places_of
  m_places_of : mg "places_of" = some (.ref A.places_of)
  b_places_of : Binds K D.places_of ["row"] []
  F_tie_of : Fun K "tie_of" "tie_of" s_tie_of A.tie_of D.tie_of
  m_tie_of : mg "tie_of" = some (.ref A.tie_of)
  b_tie_of : Binds K D.tie_of ["row"] []
  F_read : Fun K "read" "read" s_read A.read D.read
  m_read : mg "read" = some (.ref A.read)
  b_read : Binds K D.read ["text"] []
  F_law_cell : Fun K "_law_cell" "_law_cell" s_law_cell A.law_cell D.law_cell
  m_law_cell : mg "_law_cell" = some (.ref A.law_cell)
  b_law_cell : Binds K D.law_cell ["_law_script", "_law_k"] []
  F_law_mix : Fun K "_law_mix" "_law_mix" s_law_mix A.law_mix D.law_mix
  m_law_mix : mg "_law_mix" = some (.ref A.law_mix)
  b_law_mix : Binds K D.law_mix ["_law_script", "_law_k"] []
  F_law_web : Fun K "_law_web" "_law_web" s_law_web A.law_web D.law_web
  m_law_web : mg "_law_web" = some (.ref A.law_web)
  b_law_web : Binds K D.law_web ["_law_script", "_law_k", "_law_places"] []
  F_law_refusal : Fun K "_law_refusal" "_law_refusal" s_law_refusal A.law_refusal D.law_refusal
  m_law_refusal : mg "_law_refusal" = some (.ref A.law_refusal)
  b_law_refusal : Binds K D.law_refusal ["_law_kept"] []
  F_law_text : Fun K "_law_text" "_law_text" s_law_text A.law_text D.law_text
  m_law_text : mg "_law_text" = some (.ref A.law_text)
  b_law_text : Binds K D.law_text ["_law_web_here"] []
  F_law_numbers : Fun K "_law_numbers" "_law_numbers" s_law_numbers A.law_numbers D.law_numbers
  m_law_numbers : mg "_law_numbers" = some (.ref A.law_numbers)
  b_law_numbers : Binds K D.law_numbers ["_law_words"] []
  F_law_tried : Fun K "_law_tried" "_law_tried" s_law_tried A.law_tried D.law_tried
  m_law_tried : mg "_law_tried" = some (.ref A.law_tried)
  b_law_tried : Binds K D.law_tried ["_law_text_here"] []
  F_law_is_web : Fun K "_law_is_web" "_law_is_web" s_law_is_web A.law_is_web D.law_is_web
  m_law_is_web : mg "_law_is_web" = some (.ref A.law_is_web)
  b_law_is_web : Binds K D.law_is_web ["_law_tried_here"] []
  F_law : Fun K "law" "law" s_law A.law D.law
  m_law : mg "law" = some (.ref A.law)
  b_law : Binds K D.law ["_law_script"] []
  bl_law : ∀ (s : Shared) (u : Value), BindsTo s D.law ⟨[u], []⟩ [("_law_script", u)]
  m_LayError : mg "LayError" = some (.ref A.LayError)
  x_LayError : PySem.W.excIn K A.LayError bmV "ValueError.__new__" = true
  m_BadWeb : mg "BadWeb" = some (.ref A.BadWeb)
  x_BadWeb : PySem.W.excIn K A.BadWeb bmV "ValueError.__new__" = true
  l_BadWeb : ExcLook K A.BadWeb
  s_BadWeb : PySem.W.mroIn K A.BadWeb (.ref A.LayError) = some true
  v_BadWeb : PySem.W.kitOne K (.ref A.BadWeb) (.type "ValueError") = some true
  m_BadOrder : mg "BadOrder" = some (.ref A.BadOrder)
  x_BadOrder : PySem.W.excIn K A.BadOrder bmV "ValueError.__new__" = true
  l_BadOrder : ExcLook K A.BadOrder
  s_BadOrder : PySem.W.mroIn K A.BadOrder (.ref A.LayError) = some true
  v_BadOrder : PySem.W.kitOne K (.ref A.BadOrder) (.type "ValueError") = some true
  m_BadSpot : mg "BadSpot" = some (.ref A.BadSpot)
  x_BadSpot : PySem.W.excIn K A.BadSpot bmV "ValueError.__new__" = true
  l_BadSpot : ExcLook K A.BadSpot
  s_BadSpot : PySem.W.mroIn K A.BadSpot (.ref A.LayError) = some true
  v_BadSpot : PySem.W.kitOne K (.ref A.BadSpot) (.type "ValueError") = some true
  m_BadKind : mg "BadKind" = some (.ref A.BadKind)
  x_BadKind : PySem.W.excIn K A.BadKind bmV "ValueError.__new__" = true
  l_BadKind : ExcLook K A.BadKind
  s_BadKind : PySem.W.mroIn K A.BadKind (.ref A.LayError) = some true
  v_BadKind : PySem.W.kitOne K (.ref A.BadKind) (.type "ValueError") = some true
  m_BadText : mg "BadText" = some (.ref A.BadText)
  x_BadText : PySem.W.excIn K A.BadText bmV "ValueError.__new__" = true
  l_BadText : ExcLook K A.BadText
  s_BadText : PySem.W.mroIn K A.BadText (.ref A.LayError) = some true
  v_BadText : PySem.W.kitOne K (.ref A.BadText) (.type "ValueError") = some true
  i_BadWeb_BadWeb : PySem.W.kitOne K (.ref A.BadWeb) (.ref A.BadWeb) = some true
  i_BadWeb_BadOrder : PySem.W.kitOne K (.ref A.BadWeb) (.ref A.BadOrder) = some false
  i_BadWeb_BadSpot : PySem.W.kitOne K (.ref A.BadWeb) (.ref A.BadSpot) = some false
  i_BadWeb_BadKind : PySem.W.kitOne K (.ref A.BadWeb) (.ref A.BadKind) = some false
  i_BadWeb_BadText : PySem.W.kitOne K (.ref A.BadWeb) (.ref A.BadText) = some false
  i_BadOrder_BadWeb : PySem.W.kitOne K (.ref A.BadOrder) (.ref A.BadWeb) = some false
  i_BadOrder_BadOrder : PySem.W.kitOne K (.ref A.BadOrder) (.ref A.BadOrder) = some true
  i_BadOrder_BadSpot : PySem.W.kitOne K (.ref A.BadOrder) (.ref A.BadSpot) = some false
  i_BadOrder_BadKind : PySem.W.kitOne K (.ref A.BadOrder) (.ref A.BadKind) = some false
  i_BadOrder_BadText : PySem.W.kitOne K (.ref A.BadOrder) (.ref A.BadText) = some false
  i_BadSpot_BadWeb : PySem.W.kitOne K (.ref A.BadSpot) (.ref A.BadWeb) = some false
  i_BadSpot_BadOrder : PySem.W.kitOne K (.ref A.BadSpot) (.ref A.BadOrder) = some false
  i_BadSpot_BadSpot : PySem.W.kitOne K (.ref A.BadSpot) (.ref A.BadSpot) = some true
  i_BadSpot_BadKind : PySem.W.kitOne K (.ref A.BadSpot) (.ref A.BadKind) = some false
  i_BadSpot_BadText : PySem.W.kitOne K (.ref A.BadSpot) (.ref A.BadText) = some false
  i_BadKind_BadWeb : PySem.W.kitOne K (.ref A.BadKind) (.ref A.BadWeb) = some false
  i_BadKind_BadOrder : PySem.W.kitOne K (.ref A.BadKind) (.ref A.BadOrder) = some false
  i_BadKind_BadSpot : PySem.W.kitOne K (.ref A.BadKind) (.ref A.BadSpot) = some false
  i_BadKind_BadKind : PySem.W.kitOne K (.ref A.BadKind) (.ref A.BadKind) = some true
  i_BadKind_BadText : PySem.W.kitOne K (.ref A.BadKind) (.ref A.BadText) = some false
  i_BadText_BadWeb : PySem.W.kitOne K (.ref A.BadText) (.ref A.BadWeb) = some false
  i_BadText_BadOrder : PySem.W.kitOne K (.ref A.BadText) (.ref A.BadOrder) = some false
  i_BadText_BadSpot : PySem.W.kitOne K (.ref A.BadText) (.ref A.BadSpot) = some false
  i_BadText_BadKind : PySem.W.kitOne K (.ref A.BadText) (.ref A.BadKind) = some false
  i_BadText_BadText : PySem.W.kitOne K (.ref A.BadText) (.ref A.BadText) = some true
  g_MOST_PLACES : ∃ t, mg "MOST_PLACES" = some (.int 8 t)
  g_MOST_WEIGHT : ∃ t, mg "MOST_WEIGHT" = some (.int 100 t)
  g_MOST_FIGURES : ∃ t, mg "MOST_FIGURES" = some (.int 3 t)
  g_HEAD : ∃ t, mg "HEAD" = some (.str "places " t)
  g_FIGURES : ∃ t, mg "FIGURES" = some (.str "0123456789" t)
  z_all : mg "all" = none
  z_bool : mg "bool" = none
  z_int : mg "int" = none
  z_isinstance : mg "isinstance" = none
  z_len : mg "len" = none
  z_list : mg "list" = none
  z_range : mg "range" = none
  z_str : mg "str" = none
  z_tuple : mg "tuple" = none
  z_ValueError : mg "ValueError" = none
  k_bool_bool : PySem.W.kitOne K (.type "bool") (.type "bool") = some true
  k_bool_int : PySem.W.kitOne K (.type "bool") (.type "int") = some true
  k_bool_str : PySem.W.kitOne K (.type "bool") (.type "str") = some false
  k_bool_list : PySem.W.kitOne K (.type "bool") (.type "list") = some false
  k_bool_tuple : PySem.W.kitOne K (.type "bool") (.type "tuple") = some false
  k_int_bool : PySem.W.kitOne K (.type "int") (.type "bool") = some false
  k_int_int : PySem.W.kitOne K (.type "int") (.type "int") = some true
  k_int_str : PySem.W.kitOne K (.type "int") (.type "str") = some false
  k_int_list : PySem.W.kitOne K (.type "int") (.type "list") = some false
  k_int_tuple : PySem.W.kitOne K (.type "int") (.type "tuple") = some false
  k_str_bool : PySem.W.kitOne K (.type "str") (.type "bool") = some false
  k_str_int : PySem.W.kitOne K (.type "str") (.type "int") = some false
  k_str_str : PySem.W.kitOne K (.type "str") (.type "str") = some true
  k_str_list : PySem.W.kitOne K (.type "str") (.type "list") = some false
  k_str_tuple : PySem.W.kitOne K (.type "str") (.type "tuple") = some false
  k_list_bool : PySem.W.kitOne K (.type "list") (.type "bool") = some false
  k_list_int : PySem.W.kitOne K (.type "list") (.type "int") = some false
  k_list_str : PySem.W.kitOne K (.type "list") (.type "str") = some false
  k_list_list : PySem.W.kitOne K (.type "list") (.type "list") = some true
  k_list_tuple : PySem.W.kitOne K (.type "list") (.type "tuple") = some false
  k_tuple_bool : PySem.W.kitOne K (.type "tuple") (.type "bool") = some false
  k_tuple_int : PySem.W.kitOne K (.type "tuple") (.type "int") = some false
  k_tuple_str : PySem.W.kitOne K (.type "tuple") (.type "str") = some false
  k_tuple_list : PySem.W.kitOne K (.type "tuple") (.type "list") = some false
  k_tuple_tuple : PySem.W.kitOne K (.type "tuple") (.type "tuple") = some true
theorem txt_mk {K : PySem.W.Frag} {h : Heap} {mg : Str → Option Value} (X : K.In h) (G : h.Ns mainGlobals mg)
    {f_is_whole : Addr} {od0 an0 : Option Addr} {sl0 : Array (Option Value)} {oc0 kV0 dc0 pm0 cd0 ct0 : Value}
    {f_is_within : Addr} {od1 an1 : Option Addr} {sl1 : Array (Option Value)} {oc1 kV1 dc1 pm1 cd1 ct1 : Value}
    {f_is_tie : Addr} {od2 an2 : Option Addr} {sl2 : Array (Option Value)} {oc2 kV2 dc2 pm2 cd2 ct2 : Value}
    {f_look_ties : Addr} {od3 an3 : Option Addr} {sl3 : Array (Option Value)} {oc3 kV3 dc3 pm3 cd3 ct3 : Value}
    {f_look_web : Addr} {od4 an4 : Option Addr} {sl4 : Array (Option Value)} {oc4 kV4 dc4 pm4 cd4 ct4 : Value}
    {f_written : Addr} {od5 an5 : Option Addr} {sl5 : Array (Option Value)} {oc5 kV5 dc5 pm5 cd5 ct5 : Value}
    {f_number_of : Addr} {od6 an6 : Option Addr} {sl6 : Array (Option Value)} {oc6 kV6 dc6 pm6 cd6 ct6 : Value}
    {f_places_of : Addr} {od7 an7 : Option Addr} {sl7 : Array (Option Value)} {oc7 kV7 dc7 pm7 cd7 ct7 : Value}
    {f_tie_of : Addr} {od8 an8 : Option Addr} {sl8 : Array (Option Value)} {oc8 kV8 dc8 pm8 cd8 ct8 : Value}
    {f_read : Addr} {od9 an9 : Option Addr} {sl9 : Array (Option Value)} {oc9 kV9 dc9 pm9 cd9 ct9 : Value}
    {f_law_cell : Addr} {od10 an10 : Option Addr} {sl10 : Array (Option Value)} {oc10 kV10 dc10 pm10 cd10 ct10 : Value}
    {f_law_mix : Addr} {od11 an11 : Option Addr} {sl11 : Array (Option Value)} {oc11 kV11 dc11 pm11 cd11 ct11 : Value}
    {f_law_web : Addr} {od12 an12 : Option Addr} {sl12 : Array (Option Value)} {oc12 kV12 dc12 pm12 cd12 ct12 : Value}
    {f_law_refusal : Addr} {od13 an13 : Option Addr} {sl13 : Array (Option Value)} {oc13 kV13 dc13 pm13 cd13 ct13 : Value}
    {f_law_text : Addr} {od14 an14 : Option Addr} {sl14 : Array (Option Value)} {oc14 kV14 dc14 pm14 cd14 ct14 : Value}
    {f_law_numbers : Addr} {od15 an15 : Option Addr} {sl15 : Array (Option Value)} {oc15 kV15 dc15 pm15 cd15 ct15 : Value}
    {f_law_tried : Addr} {od16 an16 : Option Addr} {sl16 : Array (Option Value)} {oc16 kV16 dc16 pm16 cd16 ct16 : Value}
    {f_law_is_web : Addr} {od17 an17 : Option Addr} {sl17 : Array (Option Value)} {oc17 kV17 dc17 pm17 cd17 ct17 : Value}
    {f_law : Addr} {od18 an18 : Option Addr} {sl18 : Array (Option Value)} {oc18 kV18 dc18 pm18 cd18 ct18 : Value}
    {f_LayError : Addr}
    {f_BadWeb : Addr}
    {cl_BadWeb : ClassData}
    {f_BadOrder : Addr}
    {cl_BadOrder : ClassData}
    {f_BadSpot : Addr}
    {cl_BadSpot : ClassData}
    {f_BadKind : Addr}
    {cl_BadKind : ClassData}
    {f_BadText : Addr}
    {cl_BadText : ClassData}
    {t_MOST_PLACES : Tok}
    {t_MOST_WEIGHT : Tok}
    {t_MOST_FIGURES : Tok}
    {t_HEAD : Tok}
    {t_FIGURES : Tok}
    (a_is_whole : PySem.W.nsIn K mainGlobals "is_whole" = some (some (.ref f_is_whole))) (l_is_whole : K.lookup f_is_whole = some ⟨oc0, od0, .func (PySem.W.fnOf "is_whole" "is_whole" (defArgs s_is_whole) (defBody s_is_whole) (defScope s_is_whole) .none kV0 dc0 pm0 an0 cd0 ct0), sl0⟩) (c_is_whole : PySem.W.codeIn K cd0 "is_whole" = true) (k_is_whole : PySem.W.keepIn K (.ref f_is_whole) = true)
    (a_is_within : PySem.W.nsIn K mainGlobals "is_within" = some (some (.ref f_is_within))) (l_is_within : K.lookup f_is_within = some ⟨oc1, od1, .func (PySem.W.fnOf "is_within" "is_within" (defArgs s_is_within) (defBody s_is_within) (defScope s_is_within) .none kV1 dc1 pm1 an1 cd1 ct1), sl1⟩) (c_is_within : PySem.W.codeIn K cd1 "is_within" = true) (k_is_within : PySem.W.keepIn K (.ref f_is_within) = true)
    (a_is_tie : PySem.W.nsIn K mainGlobals "is_tie" = some (some (.ref f_is_tie))) (l_is_tie : K.lookup f_is_tie = some ⟨oc2, od2, .func (PySem.W.fnOf "is_tie" "is_tie" (defArgs s_is_tie) (defBody s_is_tie) (defScope s_is_tie) .none kV2 dc2 pm2 an2 cd2 ct2), sl2⟩) (c_is_tie : PySem.W.codeIn K cd2 "is_tie" = true) (k_is_tie : PySem.W.keepIn K (.ref f_is_tie) = true)
    (a_look_ties : PySem.W.nsIn K mainGlobals "look_ties" = some (some (.ref f_look_ties))) (l_look_ties : K.lookup f_look_ties = some ⟨oc3, od3, .func (PySem.W.fnOf "look_ties" "look_ties" (defArgs s_look_ties) (defBody s_look_ties) (defScope s_look_ties) .none kV3 dc3 pm3 an3 cd3 ct3), sl3⟩) (c_look_ties : PySem.W.codeIn K cd3 "look_ties" = true) (k_look_ties : PySem.W.keepIn K (.ref f_look_ties) = true)
    (a_look_web : PySem.W.nsIn K mainGlobals "look_web" = some (some (.ref f_look_web))) (l_look_web : K.lookup f_look_web = some ⟨oc4, od4, .func (PySem.W.fnOf "look_web" "look_web" (defArgs s_look_web) (defBody s_look_web) (defScope s_look_web) .none kV4 dc4 pm4 an4 cd4 ct4), sl4⟩) (c_look_web : PySem.W.codeIn K cd4 "look_web" = true) (k_look_web : PySem.W.keepIn K (.ref f_look_web) = true)
    (a_written : PySem.W.nsIn K mainGlobals "written" = some (some (.ref f_written))) (l_written : K.lookup f_written = some ⟨oc5, od5, .func (PySem.W.fnOf "written" "written" (defArgs s_written) (defBody s_written) (defScope s_written) .none kV5 dc5 pm5 an5 cd5 ct5), sl5⟩) (c_written : PySem.W.codeIn K cd5 "written" = true) (k_written : PySem.W.keepIn K (.ref f_written) = true)
    (a_number_of : PySem.W.nsIn K mainGlobals "number_of" = some (some (.ref f_number_of))) (l_number_of : K.lookup f_number_of = some ⟨oc6, od6, .func (PySem.W.fnOf "number_of" "number_of" (defArgs s_number_of) (defBody s_number_of) (defScope s_number_of) .none kV6 dc6 pm6 an6 cd6 ct6), sl6⟩) (c_number_of : PySem.W.codeIn K cd6 "number_of" = true) (k_number_of : PySem.W.keepIn K (.ref f_number_of) = true)
    (a_places_of : PySem.W.nsIn K mainGlobals "places_of" = some (some (.ref f_places_of))) (l_places_of : K.lookup f_places_of = some ⟨oc7, od7, .func (PySem.W.fnOf "places_of" "places_of" (defArgs s_places_of) (defBody s_places_of) (defScope s_places_of) .none kV7 dc7 pm7 an7 cd7 ct7), sl7⟩) (c_places_of : PySem.W.codeIn K cd7 "places_of" = true) (k_places_of : PySem.W.keepIn K (.ref f_places_of) = true)
    (a_tie_of : PySem.W.nsIn K mainGlobals "tie_of" = some (some (.ref f_tie_of))) (l_tie_of : K.lookup f_tie_of = some ⟨oc8, od8, .func (PySem.W.fnOf "tie_of" "tie_of" (defArgs s_tie_of) (defBody s_tie_of) (defScope s_tie_of) .none kV8 dc8 pm8 an8 cd8 ct8), sl8⟩) (c_tie_of : PySem.W.codeIn K cd8 "tie_of" = true) (k_tie_of : PySem.W.keepIn K (.ref f_tie_of) = true)
    (a_read : PySem.W.nsIn K mainGlobals "read" = some (some (.ref f_read))) (l_read : K.lookup f_read = some ⟨oc9, od9, .func (PySem.W.fnOf "read" "read" (defArgs s_read) (defBody s_read) (defScope s_read) .none kV9 dc9 pm9 an9 cd9 ct9), sl9⟩) (c_read : PySem.W.codeIn K cd9 "read" = true) (k_read : PySem.W.keepIn K (.ref f_read) = true)
    (a_law_cell : PySem.W.nsIn K mainGlobals "_law_cell" = some (some (.ref f_law_cell))) (l_law_cell : K.lookup f_law_cell = some ⟨oc10, od10, .func (PySem.W.fnOf "_law_cell" "_law_cell" (defArgs s_law_cell) (defBody s_law_cell) (defScope s_law_cell) .none kV10 dc10 pm10 an10 cd10 ct10), sl10⟩) (c_law_cell : PySem.W.codeIn K cd10 "_law_cell" = true) (k_law_cell : PySem.W.keepIn K (.ref f_law_cell) = true)
    (a_law_mix : PySem.W.nsIn K mainGlobals "_law_mix" = some (some (.ref f_law_mix))) (l_law_mix : K.lookup f_law_mix = some ⟨oc11, od11, .func (PySem.W.fnOf "_law_mix" "_law_mix" (defArgs s_law_mix) (defBody s_law_mix) (defScope s_law_mix) .none kV11 dc11 pm11 an11 cd11 ct11), sl11⟩) (c_law_mix : PySem.W.codeIn K cd11 "_law_mix" = true) (k_law_mix : PySem.W.keepIn K (.ref f_law_mix) = true)
    (a_law_web : PySem.W.nsIn K mainGlobals "_law_web" = some (some (.ref f_law_web))) (l_law_web : K.lookup f_law_web = some ⟨oc12, od12, .func (PySem.W.fnOf "_law_web" "_law_web" (defArgs s_law_web) (defBody s_law_web) (defScope s_law_web) .none kV12 dc12 pm12 an12 cd12 ct12), sl12⟩) (c_law_web : PySem.W.codeIn K cd12 "_law_web" = true) (k_law_web : PySem.W.keepIn K (.ref f_law_web) = true)
    (a_law_refusal : PySem.W.nsIn K mainGlobals "_law_refusal" = some (some (.ref f_law_refusal))) (l_law_refusal : K.lookup f_law_refusal = some ⟨oc13, od13, .func (PySem.W.fnOf "_law_refusal" "_law_refusal" (defArgs s_law_refusal) (defBody s_law_refusal) (defScope s_law_refusal) .none kV13 dc13 pm13 an13 cd13 ct13), sl13⟩) (c_law_refusal : PySem.W.codeIn K cd13 "_law_refusal" = true) (k_law_refusal : PySem.W.keepIn K (.ref f_law_refusal) = true)
    (a_law_text : PySem.W.nsIn K mainGlobals "_law_text" = some (some (.ref f_law_text))) (l_law_text : K.lookup f_law_text = some ⟨oc14, od14, .func (PySem.W.fnOf "_law_text" "_law_text" (defArgs s_law_text) (defBody s_law_text) (defScope s_law_text) .none kV14 dc14 pm14 an14 cd14 ct14), sl14⟩) (c_law_text : PySem.W.codeIn K cd14 "_law_text" = true) (k_law_text : PySem.W.keepIn K (.ref f_law_text) = true)
    (a_law_numbers : PySem.W.nsIn K mainGlobals "_law_numbers" = some (some (.ref f_law_numbers))) (l_law_numbers : K.lookup f_law_numbers = some ⟨oc15, od15, .func (PySem.W.fnOf "_law_numbers" "_law_numbers" (defArgs s_law_numbers) (defBody s_law_numbers) (defScope s_law_numbers) .none kV15 dc15 pm15 an15 cd15 ct15), sl15⟩) (c_law_numbers : PySem.W.codeIn K cd15 "_law_numbers" = true) (k_law_numbers : PySem.W.keepIn K (.ref f_law_numbers) = true)
    (a_law_tried : PySem.W.nsIn K mainGlobals "_law_tried" = some (some (.ref f_law_tried))) (l_law_tried : K.lookup f_law_tried = some ⟨oc16, od16, .func (PySem.W.fnOf "_law_tried" "_law_tried" (defArgs s_law_tried) (defBody s_law_tried) (defScope s_law_tried) .none kV16 dc16 pm16 an16 cd16 ct16), sl16⟩) (c_law_tried : PySem.W.codeIn K cd16 "_law_tried" = true) (k_law_tried : PySem.W.keepIn K (.ref f_law_tried) = true)
    (a_law_is_web : PySem.W.nsIn K mainGlobals "_law_is_web" = some (some (.ref f_law_is_web))) (l_law_is_web : K.lookup f_law_is_web = some ⟨oc17, od17, .func (PySem.W.fnOf "_law_is_web" "_law_is_web" (defArgs s_law_is_web) (defBody s_law_is_web) (defScope s_law_is_web) .none kV17 dc17 pm17 an17 cd17 ct17), sl17⟩) (c_law_is_web : PySem.W.codeIn K cd17 "_law_is_web" = true) (k_law_is_web : PySem.W.keepIn K (.ref f_law_is_web) = true)
    (a_law : PySem.W.nsIn K mainGlobals "law" = some (some (.ref f_law))) (l_law : K.lookup f_law = some ⟨oc18, od18, .func (PySem.W.fnOf "law" "law" (defArgs s_law) (defBody s_law) (defScope s_law) .none kV18 dc18 pm18 an18 cd18 ct18), sl18⟩) (c_law : PySem.W.codeIn K cd18 "law" = true) (k_law : PySem.W.keepIn K (.ref f_law) = true)
    (a_LayError : PySem.W.nsIn K mainGlobals "LayError" = some (some (.ref f_LayError))) (x_LayError : PySem.W.excIn K f_LayError bmV "ValueError.__new__" = true)
    (a_BadWeb : PySem.W.nsIn K mainGlobals "BadWeb" = some (some (.ref f_BadWeb))) (x_BadWeb : PySem.W.excIn K f_BadWeb bmV "ValueError.__new__" = true)
    (e1_BadWeb : PySem.W.findIn K (.ref f_BadWeb) "__getattribute__" = some (some (.builtin "BaseException.__getattribute__"))) (e2_BadWeb : PySem.W.findIn K (.ref f_BadWeb) "__getattr__" = some none) (e3_BadWeb : PySem.W.findIn K (.ref f_BadWeb) "__class__" = some (some (.builtin "object.__class__")))
    (e4_BadWeb : PySem.W.mroIn K f_BadWeb (.type "object") = some true) (e5_BadWeb : PySem.W.mroIn K f_BadWeb (.type "BaseException") = some true) (e6_BadWeb : PySem.W.clsIn K f_BadWeb = some cl_BadWeb) (s_BadWeb : PySem.W.mroIn K f_BadWeb (.ref f_LayError) = some true) (v_BadWeb : PySem.W.kitOne K (.ref f_BadWeb) (.type "ValueError") = some true)
    (a_BadOrder : PySem.W.nsIn K mainGlobals "BadOrder" = some (some (.ref f_BadOrder))) (x_BadOrder : PySem.W.excIn K f_BadOrder bmV "ValueError.__new__" = true)
    (e1_BadOrder : PySem.W.findIn K (.ref f_BadOrder) "__getattribute__" = some (some (.builtin "BaseException.__getattribute__"))) (e2_BadOrder : PySem.W.findIn K (.ref f_BadOrder) "__getattr__" = some none) (e3_BadOrder : PySem.W.findIn K (.ref f_BadOrder) "__class__" = some (some (.builtin "object.__class__")))
    (e4_BadOrder : PySem.W.mroIn K f_BadOrder (.type "object") = some true) (e5_BadOrder : PySem.W.mroIn K f_BadOrder (.type "BaseException") = some true) (e6_BadOrder : PySem.W.clsIn K f_BadOrder = some cl_BadOrder) (s_BadOrder : PySem.W.mroIn K f_BadOrder (.ref f_LayError) = some true) (v_BadOrder : PySem.W.kitOne K (.ref f_BadOrder) (.type "ValueError") = some true)
    (a_BadSpot : PySem.W.nsIn K mainGlobals "BadSpot" = some (some (.ref f_BadSpot))) (x_BadSpot : PySem.W.excIn K f_BadSpot bmV "ValueError.__new__" = true)
    (e1_BadSpot : PySem.W.findIn K (.ref f_BadSpot) "__getattribute__" = some (some (.builtin "BaseException.__getattribute__"))) (e2_BadSpot : PySem.W.findIn K (.ref f_BadSpot) "__getattr__" = some none) (e3_BadSpot : PySem.W.findIn K (.ref f_BadSpot) "__class__" = some (some (.builtin "object.__class__")))
    (e4_BadSpot : PySem.W.mroIn K f_BadSpot (.type "object") = some true) (e5_BadSpot : PySem.W.mroIn K f_BadSpot (.type "BaseException") = some true) (e6_BadSpot : PySem.W.clsIn K f_BadSpot = some cl_BadSpot) (s_BadSpot : PySem.W.mroIn K f_BadSpot (.ref f_LayError) = some true) (v_BadSpot : PySem.W.kitOne K (.ref f_BadSpot) (.type "ValueError") = some true)
    (a_BadKind : PySem.W.nsIn K mainGlobals "BadKind" = some (some (.ref f_BadKind))) (x_BadKind : PySem.W.excIn K f_BadKind bmV "ValueError.__new__" = true)
    (e1_BadKind : PySem.W.findIn K (.ref f_BadKind) "__getattribute__" = some (some (.builtin "BaseException.__getattribute__"))) (e2_BadKind : PySem.W.findIn K (.ref f_BadKind) "__getattr__" = some none) (e3_BadKind : PySem.W.findIn K (.ref f_BadKind) "__class__" = some (some (.builtin "object.__class__")))
    (e4_BadKind : PySem.W.mroIn K f_BadKind (.type "object") = some true) (e5_BadKind : PySem.W.mroIn K f_BadKind (.type "BaseException") = some true) (e6_BadKind : PySem.W.clsIn K f_BadKind = some cl_BadKind) (s_BadKind : PySem.W.mroIn K f_BadKind (.ref f_LayError) = some true) (v_BadKind : PySem.W.kitOne K (.ref f_BadKind) (.type "ValueError") = some true)
    (a_BadText : PySem.W.nsIn K mainGlobals "BadText" = some (some (.ref f_BadText))) (x_BadText : PySem.W.excIn K f_BadText bmV "ValueError.__new__" = true)
    (e1_BadText : PySem.W.findIn K (.ref f_BadText) "__getattribute__" = some (some (.builtin "BaseException.__getattribute__"))) (e2_BadText : PySem.W.findIn K (.ref f_BadText) "__getattr__" = some none) (e3_BadText : PySem.W.findIn K (.ref f_BadText) "__class__" = some (some (.builtin "object.__class__")))
    (e4_BadText : PySem.W.mroIn K f_BadText (.type "object") = some true) (e5_BadText : PySem.W.mroIn K f_BadText (.type "BaseException") = some true) (e6_BadText : PySem.W.clsIn K f_BadText = some cl_BadText) (s_BadText : PySem.W.mroIn K f_BadText (.ref f_LayError) = some true) (v_BadText : PySem.W.kitOne K (.ref f_BadText) (.type "ValueError") = some true)
    (i_BadWeb_BadWeb : PySem.W.kitOne K (.ref f_BadWeb) (.ref f_BadWeb) = some true)
    (i_BadWeb_BadOrder : PySem.W.kitOne K (.ref f_BadWeb) (.ref f_BadOrder) = some false)
    (i_BadWeb_BadSpot : PySem.W.kitOne K (.ref f_BadWeb) (.ref f_BadSpot) = some false)
    (i_BadWeb_BadKind : PySem.W.kitOne K (.ref f_BadWeb) (.ref f_BadKind) = some false)
    (i_BadWeb_BadText : PySem.W.kitOne K (.ref f_BadWeb) (.ref f_BadText) = some false)
    (i_BadOrder_BadWeb : PySem.W.kitOne K (.ref f_BadOrder) (.ref f_BadWeb) = some false)
    (i_BadOrder_BadOrder : PySem.W.kitOne K (.ref f_BadOrder) (.ref f_BadOrder) = some true)
    (i_BadOrder_BadSpot : PySem.W.kitOne K (.ref f_BadOrder) (.ref f_BadSpot) = some false)
    (i_BadOrder_BadKind : PySem.W.kitOne K (.ref f_BadOrder) (.ref f_BadKind) = some false)
    (i_BadOrder_BadText : PySem.W.kitOne K (.ref f_BadOrder) (.ref f_BadText) = some false)
    (i_BadSpot_BadWeb : PySem.W.kitOne K (.ref f_BadSpot) (.ref f_BadWeb) = some false)
    (i_BadSpot_BadOrder : PySem.W.kitOne K (.ref f_BadSpot) (.ref f_BadOrder) = some false)
    (i_BadSpot_BadSpot : PySem.W.kitOne K (.ref f_BadSpot) (.ref f_BadSpot) = some true)
    (i_BadSpot_BadKind : PySem.W.kitOne K (.ref f_BadSpot) (.ref f_BadKind) = some false)
    (i_BadSpot_BadText : PySem.W.kitOne K (.ref f_BadSpot) (.ref f_BadText) = some false)
    (i_BadKind_BadWeb : PySem.W.kitOne K (.ref f_BadKind) (.ref f_BadWeb) = some false)
    (i_BadKind_BadOrder : PySem.W.kitOne K (.ref f_BadKind) (.ref f_BadOrder) = some false)
    (i_BadKind_BadSpot : PySem.W.kitOne K (.ref f_BadKind) (.ref f_BadSpot) = some false)
    (i_BadKind_BadKind : PySem.W.kitOne K (.ref f_BadKind) (.ref f_BadKind) = some true)
    (i_BadKind_BadText : PySem.W.kitOne K (.ref f_BadKind) (.ref f_BadText) = some false)
    (i_BadText_BadWeb : PySem.W.kitOne K (.ref f_BadText) (.ref f_BadWeb) = some false)
    (i_BadText_BadOrder : PySem.W.kitOne K (.ref f_BadText) (.ref f_BadOrder) = some false)
    (i_BadText_BadSpot : PySem.W.kitOne K (.ref f_BadText) (.ref f_BadSpot) = some false)
    (i_BadText_BadKind : PySem.W.kitOne K (.ref f_BadText) (.ref f_BadKind) = some false)
    (i_BadText_BadText : PySem.W.kitOne K (.ref f_BadText) (.ref f_BadText) = some true)
    (g_MOST_PLACES : PySem.W.nsIn K mainGlobals "MOST_PLACES" = some (some (.int 8 t_MOST_PLACES)))
    (g_MOST_WEIGHT : PySem.W.nsIn K mainGlobals "MOST_WEIGHT" = some (some (.int 100 t_MOST_WEIGHT)))
    (g_MOST_FIGURES : PySem.W.nsIn K mainGlobals "MOST_FIGURES" = some (some (.int 3 t_MOST_FIGURES)))
    (g_HEAD : PySem.W.nsIn K mainGlobals "HEAD" = some (some (.str "places " t_HEAD)))
    (g_FIGURES : PySem.W.nsIn K mainGlobals "FIGURES" = some (some (.str "0123456789" t_FIGURES)))
    (z_all : PySem.W.nsIn K mainGlobals "all" = some none)
    (z_bool : PySem.W.nsIn K mainGlobals "bool" = some none)
    (z_int : PySem.W.nsIn K mainGlobals "int" = some none)
    (z_isinstance : PySem.W.nsIn K mainGlobals "isinstance" = some none)
    (z_len : PySem.W.nsIn K mainGlobals "len" = some none)
    (z_list : PySem.W.nsIn K mainGlobals "list" = some none)
    (z_range : PySem.W.nsIn K mainGlobals "range" = some none)
    (z_str : PySem.W.nsIn K mainGlobals "str" = some none)
    (z_tuple : PySem.W.nsIn K mainGlobals "tuple" = some none)
    (z_ValueError : PySem.W.nsIn K mainGlobals "ValueError" = some none)
    (k_bool_bool : PySem.W.kitOne K (.type "bool") (.type "bool") = some true)
    (k_bool_int : PySem.W.kitOne K (.type "bool") (.type "int") = some true)
    (k_bool_str : PySem.W.kitOne K (.type "bool") (.type "str") = some false)
    (k_bool_list : PySem.W.kitOne K (.type "bool") (.type "list") = some false)
    (k_bool_tuple : PySem.W.kitOne K (.type "bool") (.type "tuple") = some false)
    (k_int_bool : PySem.W.kitOne K (.type "int") (.type "bool") = some false)
    (k_int_int : PySem.W.kitOne K (.type "int") (.type "int") = some true)
    (k_int_str : PySem.W.kitOne K (.type "int") (.type "str") = some false)
    (k_int_list : PySem.W.kitOne K (.type "int") (.type "list") = some false)
    (k_int_tuple : PySem.W.kitOne K (.type "int") (.type "tuple") = some false)
    (k_str_bool : PySem.W.kitOne K (.type "str") (.type "bool") = some false)
    (k_str_int : PySem.W.kitOne K (.type "str") (.type "int") = some false)
    (k_str_str : PySem.W.kitOne K (.type "str") (.type "str") = some true)
    (k_str_list : PySem.W.kitOne K (.type "str") (.type "list") = some false)
    (k_str_tuple : PySem.W.kitOne K (.type "str") (.type "tuple") = some false)
    (k_list_bool : PySem.W.kitOne K (.type "list") (.type "bool") = some false)
    (k_list_int : PySem.W.kitOne K (.type "list") (.type "int") = some false)
    (k_list_str : PySem.W.kitOne K (.type "list") (.type "str") = some false)
    (k_list_list : PySem.W.kitOne K (.type "list") (.type "list") = some true)
    (k_list_tuple : PySem.W.kitOne K (.type "list") (.type "tuple") = some false)
    (k_tuple_bool : PySem.W.kitOne K (.type "tuple") (.type "bool") = some false)
    (k_tuple_int : PySem.W.kitOne K (.type "tuple") (.type "int") = some false)
    (k_tuple_str : PySem.W.kitOne K (.type "tuple") (.type "str") = some false)
    (k_tuple_list : PySem.W.kitOne K (.type "tuple") (.type "list") = some false)
    (k_tuple_tuple : PySem.W.kitOne K (.type "tuple") (.type "tuple") = some true) :
    ∃ (A : Ad) (D : FD), Txt K mg A D := by
  refine ⟨⟨f_is_whole, f_is_within, f_is_tie, f_look_ties, f_look_web, f_written, f_number_of, f_places_of, f_tie_of, f_read, f_law_cell, f_law_mix, f_law_web, f_law_refusal, f_law_text, f_law_numbers, f_law_tried, f_law_is_web, f_law, f_LayError, f_BadWeb, f_BadOrder, f_BadSpot, f_BadKind, f_BadText⟩, ⟨PySem.W.fnOf "is_whole" "is_whole" (defArgs s_is_whole) (defBody s_is_whole) (defScope s_is_whole) .none kV0 dc0 pm0 an0 cd0 ct0, PySem.W.fnOf "is_within" "is_within" (defArgs s_is_within) (defBody s_is_within) (defScope s_is_within) .none kV1 dc1 pm1 an1 cd1 ct1, PySem.W.fnOf "is_tie" "is_tie" (defArgs s_is_tie) (defBody s_is_tie) (defScope s_is_tie) .none kV2 dc2 pm2 an2 cd2 ct2, PySem.W.fnOf "look_ties" "look_ties" (defArgs s_look_ties) (defBody s_look_ties) (defScope s_look_ties) .none kV3 dc3 pm3 an3 cd3 ct3, PySem.W.fnOf "look_web" "look_web" (defArgs s_look_web) (defBody s_look_web) (defScope s_look_web) .none kV4 dc4 pm4 an4 cd4 ct4, PySem.W.fnOf "written" "written" (defArgs s_written) (defBody s_written) (defScope s_written) .none kV5 dc5 pm5 an5 cd5 ct5, PySem.W.fnOf "number_of" "number_of" (defArgs s_number_of) (defBody s_number_of) (defScope s_number_of) .none kV6 dc6 pm6 an6 cd6 ct6, PySem.W.fnOf "places_of" "places_of" (defArgs s_places_of) (defBody s_places_of) (defScope s_places_of) .none kV7 dc7 pm7 an7 cd7 ct7, PySem.W.fnOf "tie_of" "tie_of" (defArgs s_tie_of) (defBody s_tie_of) (defScope s_tie_of) .none kV8 dc8 pm8 an8 cd8 ct8, PySem.W.fnOf "read" "read" (defArgs s_read) (defBody s_read) (defScope s_read) .none kV9 dc9 pm9 an9 cd9 ct9, PySem.W.fnOf "_law_cell" "_law_cell" (defArgs s_law_cell) (defBody s_law_cell) (defScope s_law_cell) .none kV10 dc10 pm10 an10 cd10 ct10, PySem.W.fnOf "_law_mix" "_law_mix" (defArgs s_law_mix) (defBody s_law_mix) (defScope s_law_mix) .none kV11 dc11 pm11 an11 cd11 ct11, PySem.W.fnOf "_law_web" "_law_web" (defArgs s_law_web) (defBody s_law_web) (defScope s_law_web) .none kV12 dc12 pm12 an12 cd12 ct12, PySem.W.fnOf "_law_refusal" "_law_refusal" (defArgs s_law_refusal) (defBody s_law_refusal) (defScope s_law_refusal) .none kV13 dc13 pm13 an13 cd13 ct13, PySem.W.fnOf "_law_text" "_law_text" (defArgs s_law_text) (defBody s_law_text) (defScope s_law_text) .none kV14 dc14 pm14 an14 cd14 ct14, PySem.W.fnOf "_law_numbers" "_law_numbers" (defArgs s_law_numbers) (defBody s_law_numbers) (defScope s_law_numbers) .none kV15 dc15 pm15 an15 cd15 ct15, PySem.W.fnOf "_law_tried" "_law_tried" (defArgs s_law_tried) (defBody s_law_tried) (defScope s_law_tried) .none kV16 dc16 pm16 an16 cd16 ct16, PySem.W.fnOf "_law_is_web" "_law_is_web" (defArgs s_law_is_web) (defBody s_law_is_web) (defScope s_law_is_web) .none kV17 dc17 pm17 an17 cd17 ct17, PySem.W.fnOf "law" "law" (defArgs s_law) (defBody s_law) (defScope s_law) .none kV18 dc18 pm18 an18 cd18 ct18⟩, ?_⟩
  constructor
  · exact fun_mk (st := s_is_whole) l_is_whole c_is_whole k_is_whole
  · exact PySem.W.mg_of X G a_is_whole
  · exact (fun_mk (st := s_is_whole) l_is_whole c_is_whole k_is_whole).binds (ps := ["value"]) fun _ _ _ _ _ _ us hl => match us, hl with | [_], _ => rfl
  · exact fun_mk (st := s_is_within) l_is_within c_is_within k_is_within
  · exact PySem.W.mg_of X G a_is_within
  · exact (fun_mk (st := s_is_within) l_is_within c_is_within k_is_within).binds (ps := ["value", "least", "greatest"]) fun _ _ _ _ _ _ us hl => match us, hl with | [_, _, _], _ => rfl
  · exact fun_mk (st := s_is_tie) l_is_tie c_is_tie k_is_tie
  · exact PySem.W.mg_of X G a_is_tie
  · exact (fun_mk (st := s_is_tie) l_is_tie c_is_tie k_is_tie).binds (ps := ["tie", "places"]) fun _ _ _ _ _ _ us hl => match us, hl with | [_, _], _ => rfl
  · exact fun_mk (st := s_look_ties) l_look_ties c_look_ties k_look_ties
  · exact PySem.W.mg_of X G a_look_ties
  · exact (fun_mk (st := s_look_ties) l_look_ties c_look_ties k_look_ties).binds (ps := ["places", "ties"]) fun _ _ _ _ _ _ us hl => match us, hl with | [_, _], _ => rfl
  · exact fun_mk (st := s_look_web) l_look_web c_look_web k_look_web
  · exact PySem.W.mg_of X G a_look_web
  · exact (fun_mk (st := s_look_web) l_look_web c_look_web k_look_web).binds (ps := ["web"]) fun _ _ _ _ _ _ us hl => match us, hl with | [_], _ => rfl
  · exact fun_mk (st := s_written) l_written c_written k_written
  · exact PySem.W.mg_of X G a_written
  · exact (fun_mk (st := s_written) l_written c_written k_written).binds (ps := ["web"]) fun _ _ _ _ _ _ us hl => match us, hl with | [_], _ => rfl
  · exact fun_mk (st := s_number_of) l_number_of c_number_of k_number_of
  · exact PySem.W.mg_of X G a_number_of
  · exact (fun_mk (st := s_number_of) l_number_of c_number_of k_number_of).binds (ps := ["word"]) fun _ _ _ _ _ _ us hl => match us, hl with | [_], _ => rfl
  · exact fun_mk (st := s_places_of) l_places_of c_places_of k_places_of
  · exact PySem.W.mg_of X G a_places_of
  · exact (fun_mk (st := s_places_of) l_places_of c_places_of k_places_of).binds (ps := ["row"]) fun _ _ _ _ _ _ us hl => match us, hl with | [_], _ => rfl
  · exact fun_mk (st := s_tie_of) l_tie_of c_tie_of k_tie_of
  · exact PySem.W.mg_of X G a_tie_of
  · exact (fun_mk (st := s_tie_of) l_tie_of c_tie_of k_tie_of).binds (ps := ["row"]) fun _ _ _ _ _ _ us hl => match us, hl with | [_], _ => rfl
  · exact fun_mk (st := s_read) l_read c_read k_read
  · exact PySem.W.mg_of X G a_read
  · exact (fun_mk (st := s_read) l_read c_read k_read).binds (ps := ["text"]) fun _ _ _ _ _ _ us hl => match us, hl with | [_], _ => rfl
  · exact fun_mk (st := s_law_cell) l_law_cell c_law_cell k_law_cell
  · exact PySem.W.mg_of X G a_law_cell
  · exact (fun_mk (st := s_law_cell) l_law_cell c_law_cell k_law_cell).binds (ps := ["_law_script", "_law_k"]) fun _ _ _ _ _ _ us hl => match us, hl with | [_, _], _ => rfl
  · exact fun_mk (st := s_law_mix) l_law_mix c_law_mix k_law_mix
  · exact PySem.W.mg_of X G a_law_mix
  · exact (fun_mk (st := s_law_mix) l_law_mix c_law_mix k_law_mix).binds (ps := ["_law_script", "_law_k"]) fun _ _ _ _ _ _ us hl => match us, hl with | [_, _], _ => rfl
  · exact fun_mk (st := s_law_web) l_law_web c_law_web k_law_web
  · exact PySem.W.mg_of X G a_law_web
  · exact (fun_mk (st := s_law_web) l_law_web c_law_web k_law_web).binds (ps := ["_law_script", "_law_k", "_law_places"]) fun _ _ _ _ _ _ us hl => match us, hl with | [_, _, _], _ => rfl
  · exact fun_mk (st := s_law_refusal) l_law_refusal c_law_refusal k_law_refusal
  · exact PySem.W.mg_of X G a_law_refusal
  · exact (fun_mk (st := s_law_refusal) l_law_refusal c_law_refusal k_law_refusal).binds (ps := ["_law_kept"]) fun _ _ _ _ _ _ us hl => match us, hl with | [_], _ => rfl
  · exact fun_mk (st := s_law_text) l_law_text c_law_text k_law_text
  · exact PySem.W.mg_of X G a_law_text
  · exact (fun_mk (st := s_law_text) l_law_text c_law_text k_law_text).binds (ps := ["_law_web_here"]) fun _ _ _ _ _ _ us hl => match us, hl with | [_], _ => rfl
  · exact fun_mk (st := s_law_numbers) l_law_numbers c_law_numbers k_law_numbers
  · exact PySem.W.mg_of X G a_law_numbers
  · exact (fun_mk (st := s_law_numbers) l_law_numbers c_law_numbers k_law_numbers).binds (ps := ["_law_words"]) fun _ _ _ _ _ _ us hl => match us, hl with | [_], _ => rfl
  · exact fun_mk (st := s_law_tried) l_law_tried c_law_tried k_law_tried
  · exact PySem.W.mg_of X G a_law_tried
  · exact (fun_mk (st := s_law_tried) l_law_tried c_law_tried k_law_tried).binds (ps := ["_law_text_here"]) fun _ _ _ _ _ _ us hl => match us, hl with | [_], _ => rfl
  · exact fun_mk (st := s_law_is_web) l_law_is_web c_law_is_web k_law_is_web
  · exact PySem.W.mg_of X G a_law_is_web
  · exact (fun_mk (st := s_law_is_web) l_law_is_web c_law_is_web k_law_is_web).binds (ps := ["_law_tried_here"]) fun _ _ _ _ _ _ us hl => match us, hl with | [_], _ => rfl
  · exact fun_mk (st := s_law) l_law c_law k_law
  · exact PySem.W.mg_of X G a_law
  · exact (fun_mk (st := s_law) l_law c_law k_law).binds (ps := ["_law_script"]) fun _ _ _ _ _ _ us hl => match us, hl with | [_], _ => rfl
  · exact fun s v => .of_eq rfl
  · exact PySem.W.mg_of X G a_LayError
  · exact x_LayError
  · exact PySem.W.mg_of X G a_BadWeb
  · exact x_BadWeb
  · exact ⟨e1_BadWeb, e2_BadWeb, e3_BadWeb, e4_BadWeb, e5_BadWeb, _, e6_BadWeb⟩
  · exact s_BadWeb
  · exact v_BadWeb
  · exact PySem.W.mg_of X G a_BadOrder
  · exact x_BadOrder
  · exact ⟨e1_BadOrder, e2_BadOrder, e3_BadOrder, e4_BadOrder, e5_BadOrder, _, e6_BadOrder⟩
  · exact s_BadOrder
  · exact v_BadOrder
  · exact PySem.W.mg_of X G a_BadSpot
  · exact x_BadSpot
  · exact ⟨e1_BadSpot, e2_BadSpot, e3_BadSpot, e4_BadSpot, e5_BadSpot, _, e6_BadSpot⟩
  · exact s_BadSpot
  · exact v_BadSpot
  · exact PySem.W.mg_of X G a_BadKind
  · exact x_BadKind
  · exact ⟨e1_BadKind, e2_BadKind, e3_BadKind, e4_BadKind, e5_BadKind, _, e6_BadKind⟩
  · exact s_BadKind
  · exact v_BadKind
  · exact PySem.W.mg_of X G a_BadText
  · exact x_BadText
  · exact ⟨e1_BadText, e2_BadText, e3_BadText, e4_BadText, e5_BadText, _, e6_BadText⟩
  · exact s_BadText
  · exact v_BadText
  · exact i_BadWeb_BadWeb
  · exact i_BadWeb_BadOrder
  · exact i_BadWeb_BadSpot
  · exact i_BadWeb_BadKind
  · exact i_BadWeb_BadText
  · exact i_BadOrder_BadWeb
  · exact i_BadOrder_BadOrder
  · exact i_BadOrder_BadSpot
  · exact i_BadOrder_BadKind
  · exact i_BadOrder_BadText
  · exact i_BadSpot_BadWeb
  · exact i_BadSpot_BadOrder
  · exact i_BadSpot_BadSpot
  · exact i_BadSpot_BadKind
  · exact i_BadSpot_BadText
  · exact i_BadKind_BadWeb
  · exact i_BadKind_BadOrder
  · exact i_BadKind_BadSpot
  · exact i_BadKind_BadKind
  · exact i_BadKind_BadText
  · exact i_BadText_BadWeb
  · exact i_BadText_BadOrder
  · exact i_BadText_BadSpot
  · exact i_BadText_BadKind
  · exact i_BadText_BadText
  · exact ⟨_, PySem.W.mg_of X G g_MOST_PLACES⟩
  · exact ⟨_, PySem.W.mg_of X G g_MOST_WEIGHT⟩
  · exact ⟨_, PySem.W.mg_of X G g_MOST_FIGURES⟩
  · exact ⟨_, PySem.W.mg_of X G g_HEAD⟩
  · exact ⟨_, PySem.W.mg_of X G g_FIGURES⟩
  · exact PySem.W.mg_none_of X G z_all
  · exact PySem.W.mg_none_of X G z_bool
  · exact PySem.W.mg_none_of X G z_int
  · exact PySem.W.mg_none_of X G z_isinstance
  · exact PySem.W.mg_none_of X G z_len
  · exact PySem.W.mg_none_of X G z_list
  · exact PySem.W.mg_none_of X G z_range
  · exact PySem.W.mg_none_of X G z_str
  · exact PySem.W.mg_none_of X G z_tuple
  · exact PySem.W.mg_none_of X G z_ValueError
  · exact k_bool_bool
  · exact k_bool_int
  · exact k_bool_str
  · exact k_bool_list
  · exact k_bool_tuple
  · exact k_int_bool
  · exact k_int_int
  · exact k_int_str
  · exact k_int_list
  · exact k_int_tuple
  · exact k_str_bool
  · exact k_str_int
  · exact k_str_str
  · exact k_str_list
  · exact k_str_tuple
  · exact k_list_bool
  · exact k_list_int
  · exact k_list_str
  · exact k_list_list
  · exact k_list_tuple
  · exact k_tuple_bool
  · exact k_tuple_int
  · exact k_tuple_str
  · exact k_tuple_list
  · exact k_tuple_tuple
end My
namespace My
open PySem L2 PySem.Spec PyProof.Rows
variable {P : Program} {w : World} {K : PySem.W.Frag} {mg : Str → Option Value} {base : Heap} {A : Ad} {D : FD}
theorem ref_facts (T : Txt K mg A D) {C : Addr} {y : Str} (h : refWord A.er C y) : PySem.W.excIn K C bmV "ValueError.__new__" = true ∧ PySem.W.mroIn K C (.ref A.LayError) = some true ∧ ExcLook K C ∧ PySem.W.kitOne K (.ref C) (.type "ValueError") = some true := by
  rcases h with ⟨rfl, _⟩ | ⟨rfl, _⟩ | ⟨rfl, _⟩ | ⟨rfl, _⟩ | ⟨rfl, _⟩
  · exact ⟨T.x_BadKind, T.s_BadKind, T.l_BadKind, T.v_BadKind⟩
  · exact ⟨T.x_BadOrder, T.s_BadOrder, T.l_BadOrder, T.v_BadOrder⟩
  · exact ⟨T.x_BadSpot, T.s_BadSpot, T.l_BadSpot, T.v_BadSpot⟩
  · exact ⟨T.x_BadText, T.s_BadText, T.l_BadText, T.v_BadText⟩
  · exact ⟨T.x_BadWeb, T.s_BadWeb, T.l_BadWeb, T.v_BadWeb⟩
theorem sc_is_whole : FnScope ["value"] ["value"] (defScope s_is_whole) := ⟨rfl, rfl, rfl, by decide +kernel, rfl, by decide +kernel, by decide +kernel⟩
theorem ok_whole (T : Txt K mg A D) {k : Nat} : FnOk P w K mg base (CXF P w) (k + 1) A.is_whole D.is_whole ["value"] spWhole := by
  refine T.F_is_whole.okF sc_is_whole (fun vs H Q E h => ?_) (fun cdv A' outer s H vs Q E hr h => ?_)
  · obtain ⟨_, rfl, _⟩ := h
    rfl
  obtain ⟨x, rfl, h⟩ := h
  refine ⟨_, (pss_one (ps_ret (pe_and (pe_callB call_isinst rfl T.z_isinstance bt_isinstance (pa_cons (pv 0) (pa_cons (pe_bltn (v := .ty "int") rfl T.z_int bt_int rfl) pa_nil))) (pe_one (pe_not (pe_callB call_isinst rfl T.z_isinstance bt_isinstance (pa_cons (pv 0) (pa_cons (pe_bltn (v := .ty "bool") rfl T.z_bool bt_bool rfl) pa_nil)))))))), ?_⟩
  rcases h with ⟨i, rfl, q⟩ | ⟨a, xs, rfl, ha, q⟩
  · refine ⟨_, rfl, _, _, _, _, _, rfl, rfl, .int i, T.k_int_int, _, rfl, iteT ?_⟩
    exact ⟨_, rfl, _, _, _, _, _, rfl, rfl, .int i, T.k_int_bool, _, rfl, q⟩
  · exact ⟨_, rfl, _, _, _, _, _, rfl, rfl, .tup ha, T.k_tuple_int, _, rfl, iteF q⟩
theorem sc_is_within : FnScope ["value", "least", "greatest"] ["value", "least", "greatest"] (defScope s_is_within) := ⟨rfl, rfl, rfl, by decide +kernel, rfl, by decide +kernel, by decide +kernel⟩
theorem ok_within (T : Txt K mg A D) {k : Nat} (G_is_whole : FnOk P w K mg base (CXF P w) k A.is_whole D.is_whole ["value"] spWhole) : FnOk P w K mg base (CXF P w) (k + 1) A.is_within D.is_within ["value", "least", "greatest"] spWithin := by
  refine T.F_is_within.okF sc_is_within (fun vs H Q E h => ?_) (fun cdv A' outer s H vs Q E hr h => ?_)
  · obtain ⟨_, _, _, rfl, _⟩ := h
    rfl
  obtain ⟨v, a, b, rfl, q⟩ := h
  refine ⟨_, (pss_one (ps_ret (pe_and (pe_call G_is_whole hr rfl T.m_is_whole T.F_is_whole.kp T.b_is_whole .nil pass0F (pa_cons (pv 0) pa_nil)) (pe_one (pe_chain op_le op_le (pv 1) (pv 0) (pv 2)))))), ?_⟩
  refine ⟨_, rfl, _, rfl, .inl ⟨v, rfl, _, rfl, iteT ?_⟩⟩
  refine ⟨_, rfl, _, rfl, _, _, rfl, rfl, _, rfl, ite2 (fun c => ?_) (fun c => ?_)⟩
  · refine ⟨_, rfl, _, _, rfl, rfl, ?_⟩
    have c' : a ≤ v := of_decide_eq_true c
    rw [decide_eq_true c', Bool.true_and] at q
    exact q
  · have c' : ¬ a ≤ v := of_decide_eq_false (Bool.eq_false_iff.mpr c)
    rw [decide_eq_false c', Bool.false_and] at q
    exact q
theorem sc_is_tie : FnScope ["tie", "places"] ["tie", "places"] (defScope s_is_tie) := ⟨rfl, rfl, rfl, by decide +kernel, rfl, by decide +kernel, by decide +kernel⟩
theorem ok_tie (T : Txt K mg A D) {k : Nat} (G_is_within : FnOk P w K mg base (CXF P w) k A.is_within D.is_within ["value", "least", "greatest"] spWithin) : FnOk P w K mg base (CXF P w) (k + 1) A.is_tie D.is_tie ["tie", "places"] spTie := by
  refine T.F_is_tie.okF sc_is_tie (fun vs H Q E h => ?_) (fun cdv A' outer s H vs Q E hr h => ?_)
  · obtain ⟨_, _, _, rfl, _⟩ := h
    rfl
  obtain ⟨p, t, n, rfl, ht, q⟩ := h
  obtain ⟨tw, hC_MOST_WEIGHT⟩ := T.g_MOST_WEIGHT
  refine ⟨_, (pss_cons (ps_if (PW.pt (pw_or (pt_not (pt_val (pe_callB call_isinst rfl T.z_isinstance bt_isinstance (pa_cons (pv 0) (pa_cons (pe_bltn (v := .ty "tuple") rfl T.z_tuple bt_tuple rfl) pa_nil))))) (pw_or1 (pt_cmpR op_ne (pe_callB call_len_seq rfl T.z_len PySem.boot_len (pa_cons (pv 0) pa_nil)) pe_int (nomark _)))))
(pss_one (ps_ret pe_bl))
pss_nil)
(pss_cons (ps_if (pt_not (pt_val (pe_call G_is_within hr rfl T.m_is_within T.F_is_within.kp T.b_is_within .nil pass0F (pa_cons (pe_ix ix_tup (pv 0) pe_int (fun _ _ => rfl)) (pa_cons pe_int (pa_cons (pe_op op_sub (pv 1) pe_int) pa_nil))))))
(pss_one (ps_ret pe_bl))
pss_nil)
(pss_one (ps_ret (pe_and (pe_call G_is_within hr rfl T.m_is_within T.F_is_within.kp T.b_is_within .nil pass0F (pa_cons (pe_ix ix_tup (pv 0) pe_int (fun _ _ => rfl)) (pa_cons pe_int (pa_cons (pe_op op_sub (pe_ix ix_tup (pv 0) pe_int (fun _ _ => rfl)) pe_int) pa_nil)))) (pe_one (pe_call G_is_within hr rfl T.m_is_within T.F_is_within.kp T.b_is_within .nil pass0F (pa_cons (pe_ix ix_tup (pv 0) pe_int (fun _ _ => rfl)) (pa_cons pe_int (pa_cons (pe_glob (v := .int 100) rfl hC_MOST_WEIGHT ⟨_, rfl⟩) pa_nil)))))))))), ?_⟩
  refine ⟨_, rfl, _, _, _, _, _, rfl, rfl, .tup ht, T.k_tuple_tuple, _, rfl, iteF ?_⟩
  refine ⟨_, rfl, p, _, rfl, .inr (SqT.of ht), rfl, _, rfl, ?_⟩
  by_cases h3 : t.length = 3
  · obtain ⟨a, b, c, rfl⟩ : ∃ a b c, t = [a, b, c] := by
      match t, h3 with
      | [a, b, c], _ => exact ⟨a, b, c, rfl⟩
    refine iteF ?_
    refine ⟨_, rfl, _, _, _, _, rfl, rfl, SqT.of ht, rfl, _, rfl, _, _, rfl, rfl, b, 0, n - 1, rfl, _, rfl, ?_⟩
    show if (!(decide (0 ≤ b) && decide (b ≤ n - 1))) = true then _ else _
    cases e1 : (decide (0 ≤ b) && decide (b ≤ n - 1)) with
    | false =>
      refine iteT ?_
      have z : tieOk n [a, b, c] = false := by rw [tieOk_eq, e1, Bool.false_and]
      rw [z] at q
      exact q
    | true =>
      refine iteF ?_
      refine ⟨_, rfl, _, _, _, _, rfl, rfl, SqT.of ht, rfl, _, rfl, _, _, _, _, rfl, rfl, SqT.of ht, rfl, _, _, rfl, rfl, a, 0, b - 1, rfl, _, rfl, ?_⟩
      cases e2 : (decide (0 ≤ a) && decide (a ≤ b - 1)) with
      | false =>
        refine iteF ?_
        have z : tieOk n [a, b, c] = false := by rw [tieOk_eq, e1, e2, Bool.false_and, Bool.true_and]
        rw [z] at q
        exact q
      | true =>
        refine iteT ?_
        refine ⟨_, rfl, _, _, _, _, rfl, rfl, SqT.of ht, rfl, c, 1, 100, rfl, ?_⟩
        have z : tieOk n [a, b, c] = (decide (1 ≤ c) && decide (c ≤ 100)) := by rw [tieOk_eq, e1, e2, Bool.true_and, Bool.true_and]
        rw [z] at q
        exact q
  · have hl : ((t.map V.int).length : Int) ≠ 3 := by rw [List.length_map]; omega
    have c : (!decide (V.int ((t.map V.int).length : Int) = V.int 3)) = true := by
      rw [decide_eq_false (fun z => hl (V.int.inj z))]
      rfl
    rw [c]
    refine iteT ?_
    have z : tieOk n t = false := by
      unfold tieOk
      split
      · exact absurd rfl h3
      · rfl
    rw [z] at q
    exact q
theorem sc_look_ties : FnScope ["places", "ties", "before", "tie"] ["places", "ties"] (defScope s_look_ties) := ⟨rfl, rfl, rfl, by decide +kernel, rfl, by decide +kernel, by decide +kernel⟩
theorem ok_ties (T : Txt K mg A D) {k : Nat} (G_is_tie : FnOk P w K mg base (CXF P w) k A.is_tie D.is_tie ["tie", "places"] spTie) : FnOk P w K mg base (CXF P w) (k + 1) A.look_ties D.look_ties ["places", "ties"] (spTies A.er) := by
  refine T.F_look_ties.okF sc_look_ties (fun vs H Q E h => ?_) (fun cdv A' outer s H vs Q E hr h => ?_)
  · obtain ⟨_, _, _, _, rfl, _⟩ := h
    rfl
  obtain ⟨n, l, xs, ts, rfl, hl, dl, win, qn, qe⟩ := h
  refine ⟨_, (pss_cons (ps_set (i := 2) sc_look_ties.nd rfl (Or.inl rfl) (pe_tup (pa_cons (pe_un un_neg pe_int) (pa_cons (pe_un un_neg pe_int) pa_nil))))
(pss_one (ps_for passesOwn_cx rfl (pi_list (pv 1)) (pg_name (i := 3) sc_look_ties.nd rfl (Or.inl rfl))
(pss_cons (ps_if (pt_not (pt_val (pe_call G_is_tie hr rfl T.m_is_tie T.F_is_tie.kp T.b_is_tie .nil pass0F (pa_cons (pv 3) (pa_cons (pv 0) pa_nil)))))
(pss_one (ps_raise raises_cx rfl T.m_BadWeb T.x_BadWeb PySem.F.excBase_ValueError rfl (pa_cons (pe_fstr (pstrs_cons (pstr_tupr hr 3) (pstrs_cons pstr_const (pstrs_cons (pstr_int 0) (pstrs_cons pstr_const pstrs_nil))))) pa_nil)))
pss_nil)
(pss_cons (ps_if (pt_cmpR (op_leT hr.units0) (pe_slice sl_tup (pv 3) po_none (po_some pe_int)) (pv 2) (nomark _))
(pss_one (ps_raise raises_cx rfl T.m_BadWeb T.x_BadWeb PySem.F.excBase_ValueError rfl (pa_cons (pe_fstr (pstrs_cons (pstr_tupr hr 3) (pstrs_cons pstr_const pstrs_nil))) pa_nil)))
pss_nil)
(pss_one (ps_set (i := 2) sc_look_ties.nd rfl (Or.inl rfl) (pe_slice sl_tup (pv 3) po_none (po_some pe_int))))))))), ?_⟩
  refine ⟨_, rfl, _, rfl, by decide, fun p hp => ?_⟩
  have e0 : Same H (upd H p (.tup [.int (-1), .int (-1)])) := same_new hp
  refine ⟨_, rfl, l, rfl, ⟨xs, SqL.of (e0 _ _ hl)⟩, ?_⟩
  have hlen : xs.length = ts.length := by rw [← dl.length, List.length_map]
  refine for_in ts.length (fun i σ H' => ∃ b v3 bef, σ = [some (.int n), some (.ref l), some (.ref b), v3] ∧ Same H H' ∧ H' b = some (.tup (bef.map V.int)) ∧ tiesOk n bef (ts.drop i) = tiesOk n [-1, -1] ts)
    ⟨p, none, [-1, -1], rfl, e0, upd_same, rfl⟩ ?_ ?_ ?_ ?_
  · rintro i σ H' hi ⟨b, v3, bef, rfl, e, hb, ht⟩
    have hx : i < xs.length := by omega
    exact ⟨xs, xs[i], SqL.of (e _ _ hl), List.getElem?_eq_getElem hx⟩
  · rintro σ H' ⟨b, v3, bef, rfl, e, hb, ht⟩
    exact ⟨xs, SqL.of (e _ _ hl), by omega⟩
  · rintro i x σ H2 H3 hi ⟨b, v3, bef, rfl, e, hb, ht⟩ ⟨rfl, hx⟩
    obtain ⟨t, htt⟩ : ∃ t, ts[i]? = some t := ⟨ts[i], List.getElem?_eq_getElem hi⟩
    obtain ⟨a, hxa, hta⟩ := tie_at (dl.mono e) htt
    have hx2 := hx xs (SqL.of (e _ _ hl))
    rw [hxa] at hx2
    cases hx2
    have hin := win.tie t (List.mem_of_getElem? htt)
    have hdrop : ts.drop i = t :: ts.drop (i + 1) := by
      obtain ⟨h1, h2⟩ := List.getElem?_eq_some_iff.mp htt
      rw [← h2]
      exact List.drop_eq_getElem_cons h1
    rw [hdrop] at ht
    refine ⟨_, rfl, _, rfl, a, t, n, rfl, hta, _, rfl, ?_⟩
    cases e1 : tieOk n t with
    | false =>
      refine iteT ?_
      refine ⟨⟨⟨a, t, rfl, SqT.of hta, hin.1, hin.2⟩, trivial, ⟨n, rfl, win.n⟩, trivial, trivial⟩, by decide, fun x hx => ?_⟩
      refine ⟨(by show 1 ≤ sizeLine; decide), qe ?_ _ e⟩
      rw [← ht, tiesOk, e1, Bool.false_and]
    | true =>
      refine iteF ?_
      obtain ⟨ta, tb, tc, rfl, _⟩ := tieOk_three e1
      refine ⟨_, rfl, _, rfl, a, _, rfl, SqT.of hta, (by show ¬ (HT.sIx 3 0 none = 0 ∧ HT.sIx 3 3 (some 2) = 3); decide), fun p2 hp2 => ?_⟩
      have hpb : b ≠ p2 := fun z => by subst z; rw [hp2] at hb; cases hb
      refine ⟨_, rfl, p2, b, [ta, tb], bef, rfl, rfl, SqT.of upd_same, SqT.of (by rw [upd_ne hpb]; exact hb), _, rfl, ?_⟩
      cases e2 : HT.lexLe [ta, tb] bef with
      | true =>
        refine iteT ?_
        have hta2 := same_new (o := .tup (cutV ([ta, tb, tc].map V.int) none (some 2))) hp2 _ _ hta
        refine ⟨⟨⟨a, [ta, tb, tc], rfl, SqT.of hta2, hin.1, hin.2⟩, trivial, trivial⟩, by decide, fun x hx => ?_⟩
        refine ⟨(by show 1 ≤ sizeLine; decide), qe ?_ _ (e.trans (same_new hp2))⟩
        rw [← ht, tiesOk, e1, Bool.true_and]
        show (!HT.lexLe [ta, tb] bef && _) = false
        rw [e2]
        rfl
      | false =>
        refine iteF ?_
        have hta2 := same_new (o := .tup (cutV ([ta, tb, tc].map V.int) none (some 2))) hp2 _ _ hta
        refine ⟨_, rfl, _, rfl, a, _, rfl, SqT.of hta2, (by show ¬ (HT.sIx 3 0 none = 0 ∧ HT.sIx 3 3 (some 2) = 3); decide), fun p3 hp3 => ?_⟩
        refine ⟨p3, _, [ta, tb], rfl, (e.trans (same_new hp2)).trans (same_new hp3), upd_same, ?_⟩
        rw [← ht, tiesOk, e1, Bool.true_and]
        show _ = (!HT.lexLe [ta, tb] bef && _)
        rw [e2]
        rfl
  · rintro σ H' ⟨b, v3, bef, rfl, e, hb, ht⟩
    rw [List.drop_length] at ht
    exact qn ht.symm _ e
theorem sc_look_web : FnScope ["web"] ["web"] (defScope s_look_web) := ⟨rfl, rfl, rfl, by decide +kernel, rfl, by decide +kernel, by decide +kernel⟩
theorem ok_web (T : Txt K mg A D) {k : Nat} (G_is_within : FnOk P w K mg base (CXF P w) k A.is_within D.is_within ["value", "least", "greatest"] spWithin)
    (G_look_ties : FnOk P w K mg base (CXF P w) k A.look_ties D.look_ties ["places", "ties"] (spTies A.er)) : FnOk P w K mg base (CXF P w) (k + 1) A.look_web D.look_web ["web"] (spWeb A.er) := by
  refine T.F_look_web.okF sc_look_web (fun vs H Q E h => ?_) (fun cdv A' outer s H vs Q E hr h => ?_)
  · obtain ⟨_, _, _, rfl, _⟩ := h
    rfl
  obtain ⟨v, n, ts, rfl, dv, win, qn, qe⟩ := h
  obtain ⟨a, l, xs, rfl, ha, hl, dl⟩ := web_of dv
  obtain ⟨tp, hC_MOST_PLACES⟩ := T.g_MOST_PLACES
  refine ⟨_, (pss_cons (ps_if (PW.pt (pw_or (pt_not (pt_val (pe_callB call_isinst rfl T.z_isinstance bt_isinstance (pa_cons (pv 0) (pa_cons (pe_bltn (v := .ty "tuple") rfl T.z_tuple bt_tuple rfl) pa_nil))))) (pw_or1 (pt_cmpR op_ne (pe_callB call_len_seq rfl T.z_len PySem.boot_len (pa_cons (pv 0) pa_nil)) pe_int (nomark _)))))
(pss_one (ps_raise raises_cx rfl T.m_BadWeb T.x_BadWeb PySem.F.excBase_ValueError rfl (pa_cons pe_str pa_nil)))
pss_nil)
(pss_cons (ps_if (pt_not (pt_val (pe_call G_is_within hr rfl T.m_is_within T.F_is_within.kp T.b_is_within .nil pass0F (pa_cons (pe_ix ix_tup (pv 0) pe_int (fun _ _ => rfl)) (pa_cons pe_int (pa_cons (pe_glob (v := .int 8) rfl hC_MOST_PLACES ⟨_, rfl⟩) pa_nil))))))
(pss_one (ps_raise raises_cx rfl T.m_BadWeb T.x_BadWeb PySem.F.excBase_ValueError rfl (pa_cons (pe_fstr (pstrs_cons pstr_const (pstrs_cons (pstr_g (pe_glob (v := .int 8) rfl hC_MOST_PLACES ⟨_, rfl⟩) (by decide)) (pstrs_cons pstr_const pstrs_nil)))) pa_nil)))
pss_nil)
(pss_cons (ps_if (pt_not (pt_val (pe_callB call_isinst rfl T.z_isinstance bt_isinstance (pa_cons (pe_ix ix_tup (pv 0) pe_int (fun _ _ => rfl)) (pa_cons (pe_bltn (v := .ty "list") rfl T.z_list bt_list rfl) pa_nil)))))
(pss_one (ps_raise raises_cx rfl T.m_BadWeb T.x_BadWeb PySem.F.excBase_ValueError rfl (pa_cons pe_str pa_nil)))
pss_nil)
(pss_one (ps_expr (pe_call G_look_ties hr rfl T.m_look_ties T.F_look_ties.kp T.b_look_ties .nil passes_cx (pa_cons (pe_ix ix_tup (pv 0) pe_int (fun _ _ => rfl)) (pa_cons (pe_ix ix_tup (pv 0) pe_int (fun _ _ => rfl)) pa_nil)))))))), ?_⟩
  refine ⟨_, rfl, _, _, _, _, _, rfl, rfl, .tup ha, T.k_tuple_tuple, _, rfl, iteF ?_⟩
  refine ⟨_, rfl, a, _, rfl, .inr (SqT.of ha), rfl, _, rfl, iteF ?_⟩
  refine ⟨_, rfl, _, _, _, _, rfl, rfl, SqT.of ha, rfl, n, 0, 8, rfl, _, rfl, ?_⟩
  show if (!(decide (0 ≤ n) && decide (n ≤ 8))) = true then _ else _
  cases e1 : (decide (0 ≤ n) && decide (n ≤ 8)) with
  | false =>
    refine iteT ?_
    refine ⟨⟨trivial, trivial, trivial, trivial⟩, by decide, fun x hx => ⟨(by show 1 ≤ sizeLine; decide), qe ?_ _ (Same.refl _)⟩⟩
    unfold webOk
    rw [e1, Bool.false_and]
  | true =>
    refine iteF ?_
    have z : webOk n ts = tiesOk n [-1, -1] ts := by unfold webOk; rw [e1, Bool.true_and]
    refine ⟨_, rfl, _, _, _, _, rfl, rfl, SqT.of ha, rfl, _, _, _, _, _, rfl, rfl, .lst hl, T.k_list_list, _, rfl, iteF ?_⟩
    refine ⟨_, rfl, _, _, _, _, rfl, rfl, SqT.of ha, rfl, _, rfl, _, _, _, _, rfl, rfl, SqT.of ha, rfl, n, l, xs, ts, rfl, hl, dl, win, fun c H' e => qn (z.trans c) H' e, fun c H' e => qe (z.trans c) H' e⟩
theorem sc_written : FnScope ["web", "places", "rows"] ["web"] (defScope s_written) := ⟨rfl, rfl, rfl, by decide +kernel, rfl, by decide +kernel, by decide +kernel⟩
theorem nd_written_1 : List.Nodup (["one", "other", "weight"] : List Str) := by decide +kernel
theorem ok_written (T : Txt K mg A D) {k : Nat} (G_look_web : FnOk P w K mg base (CXF P w) k A.look_web D.look_web ["web"] (spWeb A.er)) : FnOk P w K mg base (CXF P w) (k + 1) A.written D.written ["web"] (spWritten A.er) := by
  obtain ⟨tH, hC_HEAD⟩ := T.g_HEAD
  refine T.F_written.okF sc_written (fun vs H Q E h => ?_) (fun cdv A' outer s H vs Q E hr h => ?_)
  · obtain ⟨_, _, _, rfl, _⟩ := h
    rfl
  obtain ⟨v, n, ts, rfl, dv, win, q, e⟩ := h
  refine ⟨_, (pss_cons (ps_expr (pe_call G_look_web hr rfl T.m_look_web T.F_look_web.kp T.b_look_web .nil passes_cx (pa_cons (pv 0) pa_nil)))
(pss_cons (ps_set (i := 1) sc_written.nd rfl (Or.inl rfl) (pe_ix ix_tup (pv 0) pe_int (fun _ _ => rfl)))
(pss_cons (ps_set (i := 2) sc_written.nd rfl (Or.inl rfl) (pe_op op_cat (pe_lst (pa_cons (pe_fstrX (psxs_cons (psx_str (pe_glob (v := .str "places ") rfl hC_HEAD ⟨_, rfl⟩)) (psxs_cons (psx_int 1) psxs_nil))) pa_nil)) (pe_lc rfl (cn_none (N := ["one", "other", "weight"]) (js := [none, none, none]) rfl rfl (by decide +kernel) (by decide +kernel) (by decide +kernel) rfl (by decide) rfl) (pi_list (pe_ix ix_tup (pv 0) pe_int (fun _ _ => rfl))) (fun _ _ _ _ => (pg_tupK (K := K) (n := 3) rfl rfl (pgs_cons (pg_name (i := 0) nd_written_1 rfl (Or.inl rfl) (hf := Or.inr rfl)) (pgs_cons (pg_name (i := 1) nd_written_1 rfl (Or.inl rfl) (hf := Or.inr rfl)) (pgs_cons (pg_name (i := 2) nd_written_1 rfl (Or.inl rfl) (hf := Or.inr rfl)) pgs_nil))) rfl rfl)) (fun _ _ _ _ => pts_nil) (fun _ _ _ _ => (pe_fstrX (psxs_cons (psx_int 0) (psxs_cons psx_const (psxs_cons (psx_int 1) (psxs_cons psx_const (psxs_cons (psx_int 2) psxs_nil))))))))))
(pss_one (ps_ret (pe_bm PySem.F.plainAttrs_str PySem.F.slot_str_join PySem.F.type_str_join mt_join pe_str (pa_cons (pv 2) pa_nil))))))), ?_⟩
  refine ⟨_, rfl, v, n, ts, rfl, dv, win, fun hw H1 e1 => ?_, fun hw H1 e1 => e hw H1 e1⟩
  obtain ⟨hn0, hn8, htt⟩ := webOk_of hw
  obtain ⟨N, rfl⟩ : ∃ N : Nat, n = N := ⟨n.toNat, by omega⟩
  obtain ⟨a, tl, xs, rfl, hwa, htl, dl⟩ := web_of (dv.mono e1)
  have hlen : xs.length = ts.length := by rw [← dl.length, List.length_map]
  have hts := win.len
  have hN : N < 1000 := by omega
  refine ⟨_, rfl, _, _, _, _, rfl, rfl, SqT.of hwa, rfl, ?_⟩
  have hhl := head_len hN
  refine ⟨("places " : Str) ++ intS N, ⟨_, _, rfl, ⟨intS N, Str.empty, ⟨(N : Int), rfl, by omega, rfl⟩, rfl, rfl⟩, by rw [Str.append_empty]⟩, by rw [sizeLine_eq]; omega, (by show 1 ≤ sizeLine; decide), fun p1 hp1 => ?_⟩
  obtain ⟨s1, n1⟩ := new_pair (o := .lst [V.str (("places " : Str) ++ intS N)]) hp1
  refine ⟨_, rfl, _, _, _, _, rfl, rfl, SqT.of (s1 _ _ hwa), rfl, tl, rfl, ⟨xs, SqL.of (s1 _ _ htl)⟩, ?_⟩
  refine lc_in (fun σ => ∃ x y z, σ = [x, y, z]) ts.length (fun i => .str (ofL (rowL (iN (ts.getD i []))))) ⟨none, none, none, rfl⟩ ?_ ?_ (by rw [sizeLine_eq]; omega) ?_ ?_
  · intro i H4 hi4 e4
    have hx : i < xs.length := by omega
    exact ⟨xs, xs[i], SqL.of (e4 _ _ (s1 _ _ htl)), List.getElem?_eq_getElem hx⟩
  · intro H4 e4
    exact ⟨xs, SqL.of (e4 _ _ (s1 _ _ htl)), by omega⟩
  · rintro Dd i x σ2 H4 H5 Nx hi4 e4 hD ⟨x1, y1, z1, rfl⟩ ⟨rfl, hx⟩ fin
    obtain ⟨t, htt2⟩ : ∃ t, ts[i]? = some t := ⟨ts[i], List.getElem?_eq_getElem hi4⟩
    obtain ⟨ta, hxa, hta⟩ := tie_at (dl.mono (s1.trans e4)) htt2
    have hx2 := hx xs (SqL.of (e4 _ _ (s1 _ _ htl)))
    rw [hxa] at hx2
    cases hx2
    have htd : ts.getD i [] = t := by rw [List.getD_eq_getElem?_getD, htt2]; rfl
    obtain ⟨pa, pb, pc, rfl, h1, h2, h3⟩ := tie_nat (htt t (List.mem_of_getElem? htt2)) hn8
    refine ⟨ta, _, rfl, SqT.of hta, rfl, _, _, rfl, _, _, rfl, _, _, rfl, rfl, ?_⟩
    have hrl := row_len h1 h2 h3
    refine ⟨rowS pa pb pc, ⟨intS pa, _, ⟨(pa : Int), rfl, by omega, rfl⟩, ⟨_, _, rfl, ⟨intS pb, _, ⟨(pb : Int), rfl, by omega, rfl⟩, ⟨_, _, rfl, ⟨intS pc, Str.empty, ⟨(pc : Int), rfl, by omega, rfl⟩, rfl, rfl⟩, rfl⟩, rfl⟩, rfl⟩, by rw [Str.append_empty]; rfl⟩, by rw [sizeLine_eq]; omega, ?_⟩
    refine fin _ _ _ ⟨_, _, _, rfl⟩ (Same.refl _) ?_
    rw [htd]
    have : ofL (rowL (iN [(pa : Int), (pb : Int), (pc : Int)])) = rowS pa pb pc := ls_inj (by rw [row_txt, ls_ofL]; rfl)
    rw [this]
    exact .str
  · intro Dd ys H4 hD e4 hy dy
    have z : (List.range ts.length).map (fun i => PyData.str (ofL (rowL (iN (ts.getD i []))))) = (ts.map fun t => ofL (rowL (iN t))).map .str := by
      rw [map_range_get (fun t => PyData.str (ofL (rowL (iN t)))) [] ts, List.map_map]
      rfl
    rw [z] at dy
    rw [datL_strs dy] at hy
    have hyl : ((ts.map fun t => ofL (rowL (iN t))).map V.str).length = ts.length := by rw [List.length_map, List.length_map]
    refine ⟨_, _, _, _, rfl, rfl, e4 _ _ n1, hy, (by rw [sizeLine_eq, hyl]; show 1 + _ ≤ _; omega), fun p2 hp2 => ?_⟩
    obtain ⟨s2, n2⟩ := new_pair (o := .lst ([V.str (("places " : Str) ++ intS N)] ++ (ts.map fun t => ofL (rowL (iN t))).map V.str)) hp2
    have hps : [V.str (("places " : Str) ++ intS N)] ++ (ts.map fun t => ofL (rowL (iN t))).map V.str = ((("places " : Str) ++ intS N) :: ts.map fun t => ofL (rowL (iN t))).map V.str := rfl
    rw [hps] at n2 ⊢
    refine ⟨rfl, _, rfl, _, _, _, rfl, rfl, SqL.of n2, ?_, ?_⟩
    · refine join_ok (fun y hy' => ?_) (by rw [List.length_cons, List.length_map]; omega)
      rcases List.mem_cons.mp hy' with rfl | hy'
      · omega
      · obtain ⟨t, ht, rfl⟩ := List.mem_map.mp hy'
        obtain ⟨pa, pb, pc, rfl, h1, h2, h3⟩ := tie_nat (htt t ht) hn8
        have : ofL (rowL (iN [(pa : Int), (pb : Int), (pc : Int)])) = rowS pa pb pc := ls_inj (by rw [row_txt, ls_ofL]; rfl)
        rw [this]
        exact row_len h1 h2 h3
    · have hj : Txt.join ("\n" : Str) ((("places " : Str) ++ intS N) :: ts.map fun t => ofL (rowL (iN t))) = txtS N ts := by
        refine txt_of ?_
        rw [List.map_cons, head_txt, Int.toNat_natCast, List.map_map]
        unfold iT
        rw [List.map_map]
        rfl
      rw [hj]
      exact q hw _ (e1.trans (s1.trans (e4.trans s2)))
theorem sc_number_of : FnScope ["word"] ["word"] (defScope s_number_of) := ⟨rfl, rfl, rfl, by decide +kernel, rfl, by decide +kernel, by decide +kernel⟩
theorem nd_number_of_1 : List.Nodup (["sign"] : List Str) := by decide +kernel
theorem ok_number_of (T : Txt K mg A D) {k : Nat} : FnOk P w K mg base (CXF P w) (k + 1) A.number_of D.number_of ["word"] (spNumber A.er) := by
  obtain ⟨tF, hC_FIGURES⟩ := T.g_FIGURES
  obtain ⟨tM, hC_MOST_FIGURES⟩ := T.g_MOST_FIGURES
  refine T.F_number_of.okF sc_number_of (fun vs H Q E h => ?_) (fun cdv A' outer s H vs Q E hr h => ?_)
  · obtain ⟨_, rfl, _⟩ := h
    rfl
  obtain ⟨w, rfl, hlen, ha, q, e⟩ := h
  have hll := ls_len w
  refine ⟨_, (pss_cons (ps_if (PW.pt (pw_or (pt_not (pt_chain op_le op_le pe_int (pe_callB call_len_str rfl T.z_len PySem.boot_len (pa_cons (pv 0) pa_nil)) (pe_glob (v := .int 3) rfl hC_MOST_FIGURES ⟨_, rfl⟩))) (pw_or1 (pt_not (pt_val (pe_callB (call_allB rfl) rfl T.z_all bt_all (pa_cons (pe_lc rfl (cn_none (N := ["sign"]) (js := [none]) rfl rfl (by decide +kernel) (by decide +kernel) (by decide +kernel) rfl (by decide) rfl) (pi_str (pv 0)) (fun _ _ _ _ => (pg_name (i := 0) nd_number_of_1 rfl (Or.inl rfl) (hf := Or.inr rfl))) (fun _ _ _ _ => pts_nil) (fun _ _ _ _ => (pe_cmpR op_in_str (pv 0) (pe_glob (v := .str "0123456789") rfl hC_FIGURES ⟨_, rfl⟩) (by with_unfolding_all rfl)))) pa_nil)))))))
(pss_one (ps_raise raises_cx rfl T.m_BadText T.x_BadText PySem.F.excBase_ValueError rfl (pa_cons (pe_fstr (pstrs_cons (pstr_strr 0) (pstrs_cons pstr_const (pstrs_cons (pstr_g (pe_glob (v := .int 3) rfl hC_MOST_FIGURES ⟨_, rfl⟩) (by decide)) (pstrs_cons pstr_const pstrs_nil))))) pa_nil)))
pss_nil)
(pss_cons (ps_if (PW.pt (pw_and (pt_cmpR op_eq (pe_ix ix_str (pv 0) pe_int (fun _ _ => rfl)) pe_str (nomark _)) (pw_and1 (pt_cmpR op_ne (pv 0) pe_str (nomark _)))))
(pss_one (ps_raise raises_cx rfl T.m_BadText T.x_BadText PySem.F.excBase_ValueError rfl (pa_cons (pe_fstr (pstrs_cons (pstr_strr 0) (pstrs_cons pstr_const pstrs_nil))) pa_nil)))
pss_nil)
(pss_one (ps_ret (pe_callTy call_int_str rfl T.z_int bt_int (pa_cons (pv 0) pa_nil)))))), ?_⟩
  refine ⟨_, rfl, w, rfl, (by rw [sizeLine_eq]; omega), ?_⟩
  refine ⟨_, _, rfl, rfl, _, rfl, ?_⟩
  by_cases c1 : ¬ (1 : Int) ≤ w.length
  · refine ifF (decide_eq_false c1) ⟨_, rfl, ?_⟩
    refine ifT rfl (ifT rfl ⟨⟨⟨w, rfl, hlen, asc_big ha⟩, trivial, trivial, trivial, trivial⟩, by decide, fun x hx => ⟨(by show 1 ≤ sizeLine; decide), e (numL_none (.inl fun z => c1 (by omega))) H (Same.refl _)⟩⟩)
  replace c1 := Decidable.not_not.mp c1
  refine ifT (decide_eq_true c1) ⟨_, _, rfl, rfl, _, rfl, ?_⟩
  by_cases c2 : ¬ (w.length : Int) ≤ 3
  · rw [decide_eq_false c2]
    refine ifT rfl (ifT rfl ⟨⟨⟨w, rfl, hlen, asc_big ha⟩, trivial, trivial, trivial, trivial⟩, by decide, fun x hx => ⟨(by show 1 ≤ sizeLine; decide), e (numL_none (.inl fun z => c2 (by omega))) H (Same.refl _)⟩⟩)
  replace c2 := Decidable.not_not.mp c2
  rw [decide_eq_true c2]
  refine ifF rfl ?_
  have h1 : 1 ≤ w.length := by omega
  have h3 : w.length ≤ 3 := by omega
  refine ⟨_, rfl, w, rfl, asc_all ha, ?_⟩
  refine lc_in (fun σ => ∃ x, σ = [x]) w.length (fun i => .bool (isD ((ls w).getD i 0))) ⟨none, rfl⟩ (fun i H3 hi e3 => hi) (fun H3 e3 => Nat.le_refl _) (by rw [sizeLine_eq]; omega) ?_ ?_
  · rintro Dd i x σ2 H3 H4 Nx hi e3 hD ⟨x1, rfl⟩ ⟨rfl, c, hc, rfl⟩ fin
    refine ⟨_, rfl, _, _, rfl, rfl, ?_⟩
    rw [fig_in]
    have hcd : (ls w).getD i 0 = c := by
      rw [List.getD_eq_getElem?_getD]
      show (w.cps.toList[i]?).getD 0 = c
      rw [Array.getElem?_toList, hc]
      rfl
    refine fin _ _ _ ⟨_, rfl⟩ (Same.refl _) ?_
    rw [hcd]
    exact .bool
  intro D1 ys1 H3 hD1 e3 hy1 dy1
  have z1 : (List.range w.length).map (fun i => PyData.bool (isD ((ls w).getD i 0))) = ((List.range w.length).map fun i => isD ((ls w).getD i 0)).map .bool := by rw [List.map_map]; rfl
  rw [z1] at dy1
  rw [datL_bools dy1] at hy1
  refine ⟨D1, _, rfl, SqL.of hy1, _, rfl, ?_⟩
  by_cases c3 : ∀ c ∈ ls w, 48 ≤ c ∧ c ≤ 57
  · rw [all_digs.mpr c3]
    refine ifF rfl ?_
    have hz := num_zero (w := ls w) (by omega) (by omega) c3
    obtain ⟨c0, hc0⟩ : ∃ c0, (ls w)[0]? = some c0 := ⟨_, List.getElem?_eq_getElem (by omega)⟩
    have hhd : (ls w).headD 0 = c0 := by
      cases hw : ls w with
      | nil => rw [hw] at hc0; cases hc0
      | cons a r => rw [hw] at hc0; exact Option.some.inj hc0
    refine ⟨_, rfl, w, 0, c0, rfl, rfl, (by rw [sizeLine_eq]; omega), atI_nat (j := 0) hc0, rfl, _, rfl, ?_⟩
    have zs : ∀ c : Nat, decide (V.str ⟨#[c]⟩ = V.str "0") = decide (c = 48) := fun c => by
      rw [Bool.eq_iff_iff, decide_eq_true_iff, decide_eq_true_iff]
      constructor
      · intro z
        have z := congrArg ls (V.str.inj z)
        have : [c] = [48] := z.trans (by decide +kernel)
        simpa using this
      · rintro rfl
        exact congrArg V.str (by decide +kernel)
    rw [zs]
    have fin : numL (ls w) = some (valL (ls w)) → Q (.int ((valL (ls w) : Nat) : Int)) H3 := fun z => q _ z H3 e3
    by_cases c4 : c0 = 48
    · refine ifT (decide_eq_true c4) ⟨_, rfl, rfl, _, rfl, ?_⟩
      by_cases c5 : ls w = [48]
      · have : V.str w = V.str "0" := congrArg V.str (ls_inj (by rw [c5]; decide +kernel))
        refine ifF (by rw [decide_eq_true this]; rfl) ?_
        exact ⟨_, rfl, w, _, rfl, by omega, digs_val c3 h1 h3, fin (by rw [hz, if_neg fun z => z.2 c5])⟩
      · have : ¬ V.str w = V.str "0" := fun z => c5 (by rw [V.str.inj z]; decide +kernel)
        refine ifT (by rw [decide_eq_false this]; rfl) ?_
        exact ⟨⟨⟨w, rfl, hlen, asc_big ha⟩, trivial, trivial⟩, by decide, fun x hx => ⟨(by show 1 ≤ sizeLine; decide), e (by rw [hz, if_pos ⟨hhd.trans c4, c5⟩]) H3 e3⟩⟩
    · refine ifF (decide_eq_false c4) (ifF rfl ?_)
      exact ⟨_, rfl, w, _, rfl, by omega, digs_val c3 h1 h3, fin (by rw [hz, if_neg fun z => c4 (hhd.symm.trans z.1)])⟩
  · have hn : numL (ls w) = none := by
      refine numL_none (.inr ?_)
      refine Classical.byContradiction fun z => c3 fun c hc => ?_
      exact Classical.byContradiction fun y => z ⟨c, hc, y⟩
    have hb : ((List.range w.length).map fun i => isD ((ls w).getD i 0)).all id = false := Bool.eq_false_iff.mpr fun z => c3 (all_digs.mp z)
    rw [hb]
    refine ifT rfl ?_
    exact ⟨⟨⟨w, rfl, hlen, asc_big ha⟩, trivial, trivial, trivial, trivial⟩, by decide, fun x hx => ⟨(by show 1 ≤ sizeLine; decide), e hn H3 e3⟩⟩
theorem sc_places_of : FnScope ["row"] ["row"] (defScope s_places_of) := ⟨rfl, rfl, rfl, by decide +kernel, rfl, by decide +kernel, by decide +kernel⟩
theorem ok_places_of (T : Txt K mg A D) {k : Nat} (G_number_of : FnOk P w K mg base (CXF P w) k A.number_of D.number_of ["word"] (spNumber A.er)) : FnOk P w K mg base (CXF P w) (k + 1) A.places_of D.places_of ["row"] (spPlaces A.er) := by
  obtain ⟨tH, hC_HEAD⟩ := T.g_HEAD
  refine T.F_places_of.okF sc_places_of (fun vs H Q E h => ?_) (fun cdv A' outer s H vs Q E hr h => ?_)
  · obtain ⟨_, rfl, _⟩ := h
    rfl
  obtain ⟨w, rfl, hlen, ha, q, e⟩ := h
  refine ⟨_, (pss_cons (ps_if (pt_not (pt_val (pe_bm PySem.F.plainAttrs_str PySem.F.slot_str_startswith PySem.F.type_str_startswith mt_starts (pv 0) (pa_cons (pe_glob (v := .str "places ") rfl hC_HEAD ⟨_, rfl⟩) pa_nil))))
(pss_one (ps_raise raises_cx rfl T.m_BadText T.x_BadText PySem.F.excBase_ValueError rfl (pa_cons (pe_fstr (pstrs_cons (pstr_strr 0) (pstrs_cons pstr_const pstrs_nil))) pa_nil)))
pss_nil)
(pss_one (ps_ret (pe_call G_number_of hr rfl T.m_number_of T.F_number_of.kp T.b_number_of .nil passes_cx (pa_cons (pe_slice sl_str (pv 0) (po_some (pe_callB call_len_str rfl T.z_len PySem.boot_len (pa_cons (pe_glob (v := .str "places ") rfl hC_HEAD ⟨_, rfl⟩) pa_nil))) po_none) pa_nil))))), ?_⟩
  refine ⟨_, rfl, rfl, _, _, rfl, rfl, _, rfl, ?_⟩
  dsimp only
  rw [starts_eq, head_ls]
  have h7 : headW.length = 7 := rfl
  rw [h7]
  unfold placesL at q e
  by_cases c : (ls w).take 7 = headW
  · rw [decide_eq_true c]
    refine ifF rfl ?_
    simp only [if_pos c] at q e
    have hsl := ls_from w 7
    obtain ⟨s1, s2⟩ := str_sub (x := w) hsl ⟨fun c hc => List.mem_of_mem_drop hc, by rw [List.length_drop]; omega⟩ ha hlen
    refine ⟨_, rfl, _, rfl, by decide, _, rfl, w, rfl, by rw [sizeLine_eq]; omega, StrLaws.sliceText w (some (7 : Nat)) none, rfl, s1, s2, fun n hn H' e' => ?_, fun hn H' e' => ?_⟩
    · rw [hsl] at hn
      exact q n hn H' e'
    · rw [hsl] at hn
      exact e hn H' e'
  · rw [decide_eq_false c]
    refine ifT rfl ?_
    simp only [if_neg c] at e
    exact ⟨⟨⟨w, rfl, hlen, asc_big ha⟩, trivial, trivial⟩, by decide, fun x hx => ⟨(by show 1 ≤ sizeLine; decide), e trivial H (Same.refl _)⟩⟩
theorem sc_tie_of : FnScope ["row", "halves", "behind"] ["row"] (defScope s_tie_of) := ⟨rfl, rfl, rfl, by decide +kernel, rfl, by decide +kernel, by decide +kernel⟩
theorem ok_tie_of (T : Txt K mg A D) {k : Nat} (G_number_of : FnOk P w K mg base (CXF P w) k A.number_of D.number_of ["word"] (spNumber A.er)) : FnOk P w K mg base (CXF P w) (k + 1) A.tie_of D.tie_of ["row"] (spTieOf A.er) := by
  refine T.F_tie_of.okF sc_tie_of (fun vs H Q E h => ?_) (fun cdv A' outer s H vs Q E hr h => ?_)
  · obtain ⟨_, rfl, _⟩ := h
    rfl
  obtain ⟨w, rfl, hlen, ha, q, e⟩ := h
  refine ⟨_, (pss_cons (ps_set (i := 1) sc_tie_of.nd rfl (Or.inl rfl) (pe_bm PySem.F.plainAttrs_str PySem.F.slot_str_partition PySem.F.type_str_partition mt_part (pv 0) (pa_cons pe_str pa_nil)))
(pss_cons (ps_set (i := 2) sc_tie_of.nd rfl (Or.inl rfl) (pe_bm PySem.F.plainAttrs_str PySem.F.slot_str_partition PySem.F.type_str_partition mt_part (pe_ix ix_tup (pv 1) pe_int (fun _ _ => rfl)) (pa_cons pe_str pa_nil)))
(pss_one (ps_ret (pe_tup (pa_cons (pe_call G_number_of hr rfl T.m_number_of T.F_number_of.kp T.b_number_of .nil passes_cx (pa_cons (pe_ix ix_tup (pv 1) pe_int (fun _ _ => rfl)) pa_nil)) (pa_cons (pe_call G_number_of hr rfl T.m_number_of T.F_number_of.kp T.b_number_of .nil passes_cx (pa_cons (pe_ix ix_tup (pv 2) pe_int (fun _ _ => rfl)) pa_nil)) (pa_cons (pe_call G_number_of hr rfl T.m_number_of T.F_number_of.kp T.b_number_of .nil passes_cx (pa_cons (pe_ix ix_tup (pv 2) pe_int (fun _ _ => rfl)) pa_nil)) pa_nil)))))))), ?_⟩
  refine ⟨_, rfl, rfl, _, _, rfl, rfl, by decide, by rw [sizeLine_eq]; omega, fun p1 hp1 => ?_⟩
  obtain ⟨s1, n1⟩ := new_pair (o := .tup [.str (Txt.partition w "-").1, .str (Txt.partition w "-").2.1, .str (Txt.partition w "-").2.2]) hp1
  obtain ⟨x1, x2⟩ := part_eq w 45
  rw [← da_str] at x1 x2
  obtain ⟨l1, a1⟩ := str_sub (x := w) x1 before_sub ha hlen
  obtain ⟨l2, a2⟩ := str_sub (x := w) x2 after_sub ha hlen
  refine ⟨_, rfl, _, _, _, _, rfl, rfl, SqT.of n1, rfl, rfl, _, _, rfl, rfl, by decide, by rw [sizeLine_eq]; omega, fun p2 hp2 => ?_⟩
  generalize (Txt.partition w "-").2.2 = wr at *
  obtain ⟨s2, n2⟩ := new_pair (o := .tup [.str (Txt.partition wr " ").1, .str (Txt.partition wr " ").2.1, .str (Txt.partition wr " ").2.2]) hp2
  obtain ⟨y1, y2⟩ := part_eq wr 32
  rw [← sp_str] at y1 y2
  obtain ⟨l3, a3⟩ := str_sub (x := wr) y1 before_sub a2 l2
  obtain ⟨l4, a4⟩ := str_sub (x := wr) y2 after_sub a2 l2
  have s12 := s1.trans s2
  unfold tieL at q e
  rw [x2] at y1 y2
  rw [← y1, ← y2, ← x1] at q e
  have n1' := s2 _ _ n1
  refine ⟨_, rfl, _, _, _, _, rfl, rfl, SqT.of n1', rfl, _, rfl, l1, a1, fun na ha1 H3 e3 => ?_, fun hn H3 e3 => e (by rw [hn]; rfl) H3 (s12.trans e3)⟩
  refine ⟨_, rfl, _, _, _, _, rfl, rfl, SqT.of (e3 _ _ n2), rfl, _, rfl, l3, a3, fun nb hb1 H4 e4 => ?_, fun hn H4 e4 => e (by rw [ha1, hn]; rfl) H4 (s12.trans (e3.trans e4))⟩
  refine ⟨_, rfl, _, _, _, _, rfl, rfl, SqT.of (e4 _ _ (e3 _ _ n2)), rfl, _, rfl, l4, a4, fun nc hc1 H5 e5 => ?_, fun hn H5 e5 => e (by rw [ha1, hb1, hn]; rfl) H5 (s12.trans (e3.trans (e4.trans e5)))⟩
  refine ⟨(by show 3 ≤ sizeLine; decide), fun p3 hp3 => ?_⟩
  obtain ⟨s3, n3⟩ := new_pair (o := .tup [V.int (na : Int), V.int (nb : Int), V.int (nc : Int)]) hp3
  have sA := s12.trans (e3.trans (e4.trans e5))
  exact q [na, nb, nc] (by rw [ha1, hb1, hc1]; rfl) p3 _ (sA.free hp3) (sA.trans s3) n3
theorem sc_read : FnScope ["text", "rows", "web", "e"] ["text"] (defScope s_read) := ⟨rfl, rfl, rfl, by decide +kernel, rfl, by decide +kernel, by decide +kernel⟩
theorem nd_read_1 : List.Nodup (["row"] : List Str) := by decide +kernel
theorem ok_read (T : Txt K mg A D) {k : Nat} (G_places_of : FnOk P w K mg base (CXF P w) k A.places_of D.places_of ["row"] (spPlaces A.er)) (G_tie_of : FnOk P w K mg base (CXF P w) k A.tie_of D.tie_of ["row"] (spTieOf A.er)) (G_look_web : FnOk P w K mg base (CXF P w) k A.look_web D.look_web ["web"] (spWeb A.er)) :
    FnOk P w K mg base (CXF P w) (k + 1) A.read D.read ["text"] (spRead A.er) := by
  refine T.F_read.okF sc_read (fun vs H Q E h => ?_) (fun cdv A' outer s H vs Q E hr h => ?_)
  · obtain ⟨_, rfl, _⟩ := h
    rfl
  obtain ⟨t, rfl, hlen, ha, q, e⟩ := h
  refine ⟨_, (pss_cons (ps_set (i := 1) sc_read.nd rfl (Or.inl rfl) (pe_bm PySem.F.plainAttrs_str PySem.F.slot_str_split PySem.F.type_str_split mt_split (pv 0) (pa_cons pe_str pa_nil)))
(pss_cons (ps_set (i := 2) sc_read.nd rfl (Or.inl rfl) (pe_tup (pa_cons (pe_call G_places_of hr rfl T.m_places_of T.F_places_of.kp T.b_places_of .nil passes_cx (pa_cons (pe_ix ix_list (pv 1) pe_int (fun _ _ => rfl)) pa_nil)) (pa_cons (pe_lcX own_cx leaves_cx rfl (cn_none (N := ["row"]) (js := [none]) rfl rfl (by decide +kernel) (by decide +kernel) (by decide +kernel) rfl (by decide) rfl) (pi_list (pe_slice sl_list (pv 1) (po_some pe_int) po_none)) (fun _ _ _ _ => (pg_name (i := 0) nd_read_1 rfl (Or.inl rfl) (hf := Or.inr rfl))) (fun _ _ _ _ => pts_nil) (fun _ _ _ _ XE PX => (pe_call G_tie_of hr rfl T.m_tie_of T.F_tie_of.kp T.b_tie_of .nil PX (pa_cons (pv 0) pa_nil)))) pa_nil))))
(pss_cons (ps_tryR own_cx rfl rfl T.m_BadWeb T.x_BadWeb rfl sc_read.nd (i := 3) rfl rfl (body_expr G_look_web hr rfl T.m_look_web T.F_look_web.kp T.b_look_web .nil (pa_cons (pv 2) pa_nil)) rfl T.m_BadText T.x_BadText PySem.F.excBase_ValueError (fun v => (pa_cons pe_str pa_nil)) leaves_cx passesAt_cx)
(pss_one (ps_ret (pv 2)))))), ?_⟩
  refine ⟨_, rfl, rfl, _, _, rfl, rfl, by decide, by rw [sizeLine_eq]; omega, fun p1 hp1 => ?_⟩
  rw [nl_str, split_eq]
  have hsm := split_small hlen ha
  have hmany := split_many hlen
  simp only [parse_eq] at q e
  cases hrs : splitC 10 (ls t) with
  | nil => exact absurd hrs (splitC_ne 10 _)
  | cons r0 rest =>
    rw [hrs] at q e hsm hmany
    obtain ⟨s1, n1⟩ := new_pair (o := .lst (((r0 :: rest).map ofL).map V.str)) hp1
    obtain ⟨w0, w1⟩ := hsm r0 (.head _)
    have e' : ((∀ n ts, ((placesL r0).bind fun n => (allN tieL rest).map fun ts => (n, ts)) = some (n, ts) → webOk n (nT ts) = false) → ∀ m H', Same H H' → E (.ref A.er.BadText) m H') := e
    have q' : ∀ n ts, ((placesL r0).bind fun n => (allN tieL rest).map fun ts => (n, ts)) = some (n, ts) → webOk n (nT ts) = true → ∀ v H', Same H H' → Dat H' (webD n (nT ts)) v → Q v H' := q
    refine ⟨_, rfl, _, _, _, _, rfl, rfl, SqL.of n1, atI_nat (j := 0) rfl, ofL r0, rfl, w0, w1, fun n hn H2 e2 => ?_, fun hn H2 e2 => e' (fun n ts z => by rw [show placesL r0 = none from hn] at z; cases z) none H2 (s1.trans e2)⟩
    have hn : placesL r0 = some n := hn
    have hn1000 : n < 1000 := by
      unfold placesL at hn
      split at hn
      · exact numL_lt hn
      · cases hn
    refine ⟨_, rfl, _, rfl, p1, _, rfl, SqL.of (e2 _ _ n1), fun p2 hp2 => ?_⟩
    have hcut : cutV (((r0 :: rest).map ofL).map V.str) (some 1) none = (rest.map ofL).map V.str := cut_drop (k := 1)
    rw [hcut]
    obtain ⟨s2, n2⟩ := new_pair (o := .lst ((rest.map ofL).map V.str)) hp2
    refine ⟨p2, rfl, ⟨_, SqL.of n2⟩, ?_⟩
    have hgetr : ∀ i, i < rest.length → ((rest.map ofL).map V.str)[i]? = some (.str (ofL (rest.getD i []))) := fun i hi => by
      rw [List.getElem?_map, List.getElem?_map, List.getElem?_eq_getElem hi, List.getD_eq_getElem?_getD, List.getElem?_eq_getElem hi]
      rfl
    have hrl : rest.length ≤ 1000 := by rw [List.length_cons] at hmany; omega
    refine lc_inP (fun i σ => (∃ x, σ = [x]) ∧ ∀ j < i, (tieL (rest.getD j [])).isSome = true) rest.length (fun i => tieD (nI ((tieL (rest.getD i [])).getD []))) ⟨⟨none, rfl⟩, fun j hj => absurd hj (Nat.not_lt_zero _)⟩ ?_ ?_ (by rw [sizeLine_eq]; omega) ?_ ?_
    · intro i H3 hi e3
      exact ⟨_, _, SqL.of (e3 _ _ n2), hgetr i hi⟩
    · intro H3 e3
      exact ⟨_, SqL.of (e3 _ _ n2), by rw [List.length_map, List.length_map]; exact Nat.le_refl _⟩
    · rintro Dd i x σ2 H3 H4 Nx hi e3 ⟨ysD, hD⟩ ⟨⟨x1, rfl⟩, hj⟩ ⟨rfl, hx⟩ fin
      have hx2 := hx _ (SqL.of (e3 _ _ n2))
      rw [hgetr i hi] at hx2
      cases hx2
      have hmem : rest.getD i [] ∈ rest := by
        rw [List.getD_eq_getElem?_getD, List.getElem?_eq_getElem hi]
        exact List.getElem_mem hi
      obtain ⟨v0, v1⟩ := hsm _ (.tail _ hmem)
      refine ⟨_, rfl, ofL (rest.getD i []), rfl, v0, v1, fun ns hns l H5 hl e5 hl5 => ?_, fun hnn H5 e5 => ?_⟩
      · have hns : tieL (rest.getD i []) = some ns := hns
        refine fin _ _ _ ⟨⟨_, rfl⟩, fun j hj' => ?_⟩ e5 ?_
        · by_cases c : j = i
          · subst c; rw [hns]; rfl
          · exact hj j (by omega)
        · rw [hns]
          exact Dat.intsT (by rw [mask_ne (ne_new hl hD)]; exact hl5)
      · have hnn : tieL (rest.getD i []) = none := hnn
        exact e' (fun n ts z => by rw [all_none hmem hnn, hn] at z; cases z) none H5 (s1.trans (e2.trans (s2.trans (e3.trans e5))))
    · rintro Dd ys H3 ⟨_, _, hall⟩ hD e3 hy dy
      obtain ⟨ts, ht, hd⟩ := all_some hall
      rw [hd] at dy
      have hparse : ((placesL r0).bind fun n => (allN tieL rest).map fun ts => (n, ts)) = some (n, ts) := by rw [hn, ht]; rfl
      obtain ⟨htl, ht3⟩ := all_three ht
      have win := webIn_nat hn1000 (by omega) ht3
      refine ⟨(by show 2 ≤ sizeLine; decide), fun p3 hp3 => ?_⟩
      obtain ⟨s3, n3⟩ := new_pair (o := .tup [V.int (n : Int), V.ref Dd]) hp3
      have dw : Dat _ (webD n (nT ts)) (.ref p3) := web_mk n3 (s3 _ _ hy) (dy.mono (mask_same.trans s3))
      have sA := (s1.trans (e2.trans (s2.trans e3))).trans s3
      refine ⟨fun Cv m H1 => Cv = .ref A.BadWeb ∧ m = none ∧ Same _ H1 ∧ webOk n (nT ts) = false, ⟨_, rfl, .ref p3, n, nT ts, rfl, dw, win, fun hw H4 e4 => ⟨_, rfl, q' n ts hparse hw _ _ (sA.trans e4) (dw.mono e4)⟩, fun hw H4 e4 => ⟨rfl, rfl, e4, hw⟩⟩, ?_⟩
      rintro C m H4 ⟨hC, hm, e4, hw⟩
      cases hC
      refine ⟨hm, ⟨bmV, _, T.x_BadWeb, by decide⟩, mro_own T.x_BadWeb, fun a H5 e5 => ⟨(by show 1 ≤ sizeLine; decide), Same.refl _, e' (fun n2 ts2 z => by rw [hparse] at z; cases z; exact hw) (some a) H5 (sA.trans (e4.trans e5))⟩⟩
theorem sc_law_cell : FnScope ["_law_script", "_law_k"] ["_law_script", "_law_k"] (defScope s_law_cell) := ⟨rfl, rfl, rfl, by decide +kernel, rfl, by decide +kernel, by decide +kernel⟩
theorem ok_law_cell (T : Txt K mg A D) {k : Nat} : FnOk P w K mg base (CXF P w) (k + 1) A.law_cell D.law_cell ["_law_script", "_law_k"] (spCell K) := by
  refine T.F_law_cell.okF sc_law_cell (fun vs H Q E h => ?_) (fun cdv A' outer s H vs Q E hr h => ?_)
  · obtain ⟨_, _, _, rfl, _⟩ := h
    rfl
  obtain ⟨a, ns, i, rfl, hS, q⟩ := h
  refine ⟨_, (pss_cons (ps_if (pt_truth (pv 0) (fun _ => rfl))
(pss_one (ps_ret (pe_ix ix_list (pv 0) (pe_op op_mod (pv 1) (pe_callB call_len_seq rfl T.z_len PySem.boot_len (pa_cons (pv 0) pa_nil))) (fun _ _ => rfl))))
pss_nil)
(pss_one (ps_ret pe_int))), ?_⟩
  refine ⟨_, rfl, _, .inl ⟨_, hS, rfl⟩, ?_⟩
  cases ns with
  | nil => exact iteF q
  | cons x r =>
    refine iteT ?_
    exact ⟨_, rfl, _, rfl, _, rfl, _, _, rfl, .inl hS, _, _, rfl, rfl, (by rw [List.length_map, List.length_cons]; omega), _, _, _, _, rfl, rfl, hS, cell_at (List.cons_ne_nil x r) i, q⟩
theorem sc_law_mix : FnScope ["_law_script", "_law_k", "_law_number"] ["_law_script", "_law_k"] (defScope s_law_mix) := ⟨rfl, rfl, rfl, by decide +kernel, rfl, by decide +kernel, by decide +kernel⟩
theorem ok_law_mix (T : Txt K mg A D) {k : Nat} (G_law_cell : FnOk P w K mg base (CXF P w) k A.law_cell D.law_cell ["_law_script", "_law_k"] (spCell K)) : FnOk P w K mg base (CXF P w) (k + 1) A.law_mix D.law_mix ["_law_script", "_law_k"] (spMix K) := by
  refine T.F_law_mix.okF sc_law_mix (fun vs H Q E h => ?_) (fun cdv A' outer s H vs Q E hr h => ?_)
  · obtain ⟨_, _, _, rfl, _⟩ := h
    rfl
  obtain ⟨a, ns, i, rfl, hS, q⟩ := h
  refine ⟨_, (pss_cons (ps_set (i := 2) sc_law_mix.nd rfl (Or.inl rfl) (pe_op op_mod (pe_op op_add (pe_call G_law_cell hr rfl T.m_law_cell T.F_law_cell.kp T.b_law_cell .nil pass0F (pa_cons (pv 0) (pa_cons (pv 1) pa_nil))) (pe_op op_mul pe_int (pe_op op_add (pv 1) pe_int))) pe_int))
(pss_cons (ps_set (i := 2) sc_law_mix.nd rfl (Or.inl rfl) (pe_op op_mod (pe_op op_mul (pv 2) pe_int) pe_int))
(pss_one (ps_ret (pe_op op_mod (pe_op op_add (pe_op op_mul (pe_op op_fdiv (pv 2) pe_int) pe_int) (pv 2)) pe_int))))), ?_⟩
  refine ⟨_, rfl, _, rfl, a, ns, i, rfl, hS, _, rfl, _, _, rfl, rfl, _, _, rfl, rfl, .inl ⟨by decide, by decide⟩, _, _, rfl, rfl, _, _, rfl, rfl, (by show (0 : Int) < 4294967291; decide), ?_⟩
  refine ⟨_, rfl, _, _, rfl, rfl, .inr ⟨by decide, by decide⟩, _, _, rfl, rfl, (by show (0 : Int) < 4294967279; decide), ?_⟩
  exact ⟨_, rfl, _, _, rfl, rfl, ⟨by decide, by decide⟩, _, _, rfl, rfl, .inr ⟨by decide, by decide⟩, _, rfl, _, _, rfl, rfl, _, _, rfl, rfl, (by show (0 : Int) < 4294967231; decide), q⟩
theorem sc_law_web : FnScope ["_law_script", "_law_k", "_law_places", "_law_many", "_law_dense", "_law_ties", "_law_one", "_law_other", "_law_number"] ["_law_script", "_law_k", "_law_places"] (defScope s_law_web) := ⟨rfl, rfl, rfl, by decide +kernel, rfl, by decide +kernel, by decide +kernel⟩
theorem ok_law_web (T : Txt K mg A D) {k : Nat} (G_law_mix : FnOk P w K mg base (CXF P w) k A.law_mix D.law_mix ["_law_script", "_law_k"] (spMix K)) : FnOk P w K mg base (CXF P w) (k + 1) A.law_web D.law_web ["_law_script", "_law_k", "_law_places"] (spLWeb K) := by
  refine T.F_law_web.okF sc_law_web (fun vs H Q E h => ?_) (fun cdv A' outer s H vs Q E hr h => ?_)
  · obtain ⟨_, _, _, _, rfl, _⟩ := h
    rfl
  obtain ⟨a, ns, k0, m, rfl, hS, hm0, hm8, q⟩ := h
  refine ⟨_, (pss_cons (ps_set (i := 3) sc_law_web.nd rfl (Or.inl rfl) (pe_op op_mod (pe_call G_law_mix hr rfl T.m_law_mix T.F_law_mix.kp T.b_law_mix .nil pass0F (pa_cons (pv 0) (pa_cons (pv 1) pa_nil))) (pe_op op_add (pv 2) pe_int)))
(pss_cons (ps_set (i := 4) sc_law_web.nd rfl (Or.inl rfl) (pe_op op_add pe_int (pe_op op_mod (pe_call G_law_mix hr rfl T.m_law_mix T.F_law_mix.kp T.b_law_mix .nil pass0F (pa_cons (pv 0) (pa_cons (pe_op op_add (pv 1) pe_int) pa_nil))) pe_int)))
(pss_cons (ps_set (i := 5) sc_law_web.nd rfl (Or.inl rfl) (pe_lst pa_nil))
(pss_cons (ps_for passesOwn_cx rfl (pi_range1 rfl T.z_range (pa_cons (pv 3) pa_nil)) (pg_name (i := 6) sc_law_web.nd rfl (Or.inl rfl))
(pss_one (ps_for passesOwn_cx rfl (pi_range2 rfl T.z_range (pa_cons (pe_op op_add (pv 6) pe_int) (pa_cons (pv 3) pa_nil))) (pg_name (i := 7) sc_law_web.nd rfl (Or.inl rfl))
(pss_cons (ps_set (i := 8) sc_law_web.nd rfl (Or.inl rfl) (pe_call G_law_mix hr rfl T.m_law_mix T.F_law_mix.kp T.b_law_mix .nil pass0F (pa_cons (pv 0) (pa_cons (pe_op op_add (pe_op op_add (pe_op op_add (pv 1) pe_int) (pe_op op_mul pe_int (pv 6))) (pv 7)) pa_nil))))
(pss_one (ps_if (pt_cmpR op_lt (pe_op op_mod (pe_op op_fdiv (pv 8) pe_int) pe_int) (pv 4) (nomark _))
(pss_one (ps_expr (pe_bm PySem.F.plainAttrs_list PySem.F.slot_list_append PySem.F.type_list_append mt_append (pv 5) (pa_cons (pe_tup (pa_cons (pv 6) (pa_cons (pv 7) (pa_cons (pe_ix ix_list (pe_lst (pa_cons pe_int (pa_cons pe_int (pa_cons pe_int (pa_cons pe_int (pa_cons pe_int (pa_cons pe_int pa_nil))))))) (pe_op op_mod (pe_op op_fdiv (pv 8) pe_int) pe_int) (fun _ _ => rfl)) pa_nil)))) pa_nil))))
pss_nil))))))
(pss_one (ps_ret (pe_tup (pa_cons (pv 3) (pa_cons (pv 5) pa_nil))))))))), ?_⟩
  refine ⟨_, rfl, _, rfl, a, ns, k0, rfl, hS, _, rfl, _, _, rfl, rfl, _, _, rfl, rfl, (by show 0 < m + 1; omega), ?_⟩
  have hn0 : 0 ≤ mixI ns k0 % (m + 1) := Int.emod_nonneg _ (by omega)
  have hn1 : mixI ns k0 % (m + 1) < m + 1 := Int.emod_lt_of_pos _ (by omega)
  dsimp only
  generalize mixI ns k0 % (m + 1) = n at hn0 hn1 ⊢
  refine ⟨_, rfl, _, rfl, _, _, rfl, rfl, a, ns, _, rfl, hS, _, _, rfl, rfl, (by show (0 : Int) < 4; decide), _, _, rfl, rfl, Nat.zero_le _, fun t ht => ?_⟩
  dsimp only
  generalize 1 + mixI ns (k0 + 1) % 4 = de
  have e0 : Same H (upd H t (.lst [])) := same_new ht
  refine ⟨_, rfl, _, rfl, by omega, by omega, ?_⟩
  refine for_in n.toNat (fun i σ H' => ∃ v6 v7 v8 ts xs, σ = [some (.ref a), some (.int k0), some (.int m), some (.int n), some (.int de), some (.ref t), v6, v7, v8] ∧ Same H H' ∧ H' t = some (.lst xs) ∧ DatL (mask t H') (ts.map tieD) xs ∧ TW n (i : Int) 0 ts ∧ ts.length ≤ 8 * i)
    ⟨none, none, none, [], [], rfl, e0, upd_same, .nil, .nil, Nat.zero_le _⟩ (fun i σ H' hi _ => hi) (fun σ H' _ => Nat.le_refl _) ?_ ?_
  · rintro i x σ H2 H3 hi ⟨v6, v7, v8, ts0, xs0, rfl, e2, hx0, dl0, tw0, hl0⟩ ⟨rfl, rfl⟩
    have ei : (0 : Int) + (i : Nat) = i := by omega
    rw [ei]
    refine ⟨_, rfl, _, _, rfl, rfl, _, rfl, _, _, rfl, ⟨by omega, by omega, by omega, by omega⟩, ?_⟩
    refine for_in (n - ((i : Int) + 1)).toNat (fun j σ H' => ∃ v7 v8 ts xs, σ = [some (.ref a), some (.int k0), some (.int m), some (.int n), some (.int de), some (.ref t), some (.int i), v7, v8] ∧ Same H H' ∧ H' t = some (.lst xs) ∧ DatL (mask t H') (ts.map tieD) xs ∧ TW n (i : Int) ((i : Int) + 1 + j) ts ∧ ts.length ≤ 8 * i + j)
      ⟨v7, v8, ts0, xs0, rfl, e2, hx0, dl0, tw0.later (by omega), by omega⟩ (fun j σ H' hj _ => hj) (fun σ H' _ => Nat.le_refl _) ?_ ?_
    · rintro j x σ H4 H5 hj ⟨v7, v8, ts, xs, rfl, e4, hx, dl, tw, hl⟩ ⟨rfl, rfl⟩
      have hS4 := e4.seq hS
      refine ⟨_, rfl, _, rfl, _, _, rfl, rfl, _, rfl, _, _, rfl, rfl, .inl ⟨by decide, by decide⟩, _, _, rfl, rfl, _, rfl, _, _, rfl, rfl, a, ns, _, rfl, hS4, ?_⟩
      have hx0 := mixI_nonneg ns (k0 + 2 + 8 * (i : Int) + ((i : Int) + 1 + (j : Nat)))
      dsimp only
      generalize mixI ns (k0 + 2 + 8 * (i : Int) + ((i : Int) + 1 + (j : Nat))) = nu at hx0 ⊢
      refine ⟨_, rfl, _, _, rfl, rfl, ⟨by decide, by decide⟩, _, _, rfl, rfl, (by show (0 : Int) < 4; decide), _, rfl, _, _, rfl, rfl, _, rfl, ite2 (fun c => ?_) (fun c => ?_)⟩
      · obtain ⟨wt, hw, hw1, hw2⟩ := weights_at (i := nu / 64 % 6) (Int.emod_nonneg _ (by decide)) (Int.emod_lt_of_pos _ (by decide))
        refine ⟨_, rfl, .inl ⟨rfl, _, SqL.of hx⟩, _, rfl, _, rfl, (by show 6 ≤ sizeLine; decide), fun p hp => ?_⟩
        refine ⟨_, rfl, _, _, rfl, rfl, ⟨by decide, by decide⟩, _, _, rfl, rfl, (by show (0 : Int) < 6; decide), _, _, _, _, rfl, rfl, SqL.of upd_same, hw, (by show 3 ≤ sizeLine; decide), fun r hr2 => ?_⟩
        have s1 := same_new (o := .lst [V.int 1, V.int 1, V.int 2, V.int 3, V.int 7, V.int 100]) hp
        have s2 := same_new (o := .tup [V.int i, V.int ((i : Int) + 1 + (j : Nat)), V.int wt]) hr2
        have s3 := s1.trans s2
        have hlx : xs.length = ts.length := by rw [← dl.length, List.length_map]
        have hrt : r ≠ t := ne_new hr2 (s1 _ _ hx)
        have ht4 : H t = none := ht
        refine ⟨_, _, _, rfl, rfl, s3 _ _ hx, (by rw [hlx, sizeLine_eq]; omega), _, _, ts ++ [[(i : Int), (i : Int) + 1 + (j : Nat), wt]], _, rfl, (e4.trans s3).put ht, upd_same, ?_, ?_, ?_⟩
        · rw [mask_upd, List.map_append]
          refine (dl.mono (mask_mono s3)).append (.cons (Dat.intsT (ns := [(i : Int), (i : Int) + 1 + (j : Nat), wt]) ?_) .nil)
          rw [mask_ne hrt]
          exact upd_same
        · have := tw.add (w := wt) (by omega) (by omega) (by omega) hw1 hw2
          have e : (i : Int) + 1 + ((j + 1 : Nat) : Int) = (i : Int) + 1 + (j : Nat) + 1 := by omega
          rw [e]
          exact this
        · rw [List.length_append]
          show ts.length + 1 ≤ _
          omega
      · exact ⟨_, _, ts, xs, rfl, e4, hx, dl, tw.later (by omega), by omega⟩
    · rintro σ H4 ⟨v7, v8, ts, xs, rfl, e4, hx, dl, tw, hl⟩
      exact ⟨_, _, _, ts, xs, rfl, e4, hx, dl, tw.later (by omega), by omega⟩
  · rintro σ H' ⟨v6, v7, v8, ts, xs, rfl, e2, hx, dl, tw, hl⟩
    refine ⟨_, rfl, _, rfl, (by show 2 ≤ sizeLine; decide), fun p hp => ?_⟩
    have s1 := same_new (o := .tup [V.int n, V.ref t]) hp
    have hw : webOk n ts = true := by
      unfold webOk
      rw [tw.ok, decide_eq_true hn0, decide_eq_true (show n ≤ 8 by omega)]
      rfl
    refine q _ _ n ts (e2.trans s1) (web_mk upd_same (s1 _ _ hx) (dl.mono (mask_same.trans s1))) hw (webIn_of hw (by omega)) (by omega) (by omega)
theorem sc_law_refusal : FnScope ["_law_kept", "_law_kinds"] ["_law_kept"] (defScope s_law_refusal) := ⟨rfl, rfl, rfl, by decide +kernel, rfl, by decide +kernel, by decide +kernel⟩
theorem ok_law_refusal (T : Txt K mg A D) {k : Nat} : FnOk P w K mg base (CXF P w) (k + 1) A.law_refusal D.law_refusal ["_law_kept"] (spRef A.er) := by
  refine T.F_law_refusal.okF sc_law_refusal (fun vs H Q E h => ?_) (fun cdv A' outer s H vs Q E hr h => ?_)
  · obtain ⟨_, rfl, _⟩ := h
    rfl
  obtain ⟨x, rfl, h⟩ := h
  refine ⟨_, (pss_cons (ps_if (pt_cmp (pc_isN (pv 0)))
(pss_one (ps_ret pe_str))
pss_nil)
(pss_cons (ps_set (i := 1) sc_law_refusal.nd rfl (Or.inl rfl) (pe_lst (pa_cons (pe_callB call_isinstX rfl T.z_isinstance bt_isinstance (pa_cons (pv 0) (pa_cons (pe_glob (v := .ref A.BadKind) rfl T.m_BadKind rfl) pa_nil))) (pa_cons (pe_callB call_isinstX rfl T.z_isinstance bt_isinstance (pa_cons (pv 0) (pa_cons (pe_glob (v := .ref A.BadOrder) rfl T.m_BadOrder rfl) pa_nil))) (pa_cons (pe_callB call_isinstX rfl T.z_isinstance bt_isinstance (pa_cons (pv 0) (pa_cons (pe_glob (v := .ref A.BadSpot) rfl T.m_BadSpot rfl) pa_nil))) pa_nil)))))
(pss_cons (ps_set (i := 1) sc_law_refusal.nd rfl (Or.inl rfl) (pe_op op_cat (pv 1) (pe_lst (pa_cons (pe_callB call_isinstX rfl T.z_isinstance bt_isinstance (pa_cons (pv 0) (pa_cons (pe_glob (v := .ref A.BadText) rfl T.m_BadText rfl) pa_nil))) (pa_cons (pe_callB call_isinstX rfl T.z_isinstance bt_isinstance (pa_cons (pv 0) (pa_cons (pe_glob (v := .ref A.BadWeb) rfl T.m_BadWeb rfl) pa_nil))) pa_nil)))))
(pss_cons (ps_if (PW.pt (pw_or (pt_cmpR op_ne (pe_bm PySem.F.plainAttrs_list PySem.F.slot_list_count PySem.F.type_list_count mt_count (pv 1) (pa_cons pe_bl pa_nil)) pe_int (nomark _)) (pw_or1 (pt_not (pt_val (pe_callB call_isinstX rfl T.z_isinstance bt_isinstance (pa_cons (pv 0) (pa_cons (pe_bltn (v := .ty "ValueError") rfl T.z_ValueError bt_ValueError rfl) pa_nil))))))))
(pss_one (ps_ret pe_str))
pss_nil)
(pss_one (ps_ret (pe_ix ix_list (pe_lst (pa_cons pe_str (pa_cons pe_str (pa_cons pe_str (pa_cons pe_str (pa_cons pe_str pa_nil)))))) (pe_bm PySem.F.plainAttrs_list PySem.F.slot_list_index PySem.F.type_list_index mt_index (pv 1) (pa_cons pe_bl pa_nil)) (fun _ _ => rfl)))))))), ?_⟩
  rcases h with ⟨rfl, q⟩ | ⟨a, C, y, rfl, ha, hw, q⟩
  · exact ⟨_, rfl, _, rfl, iteDT rfl q⟩
  refine ⟨_, rfl, _, rfl, iteDF (fun z => nomatch z) ?_⟩
  obtain ⟨_, _, L, hV⟩ := ref_facts T hw
  obtain ⟨bK, bO, bS, bT, bW, j, h1, h2, h3, h4, h5, h6, h7, h8⟩ : ∃ (bK bO bS bT bW : Bool) (j : Nat), PySem.W.kitOne K (.ref C) (.ref A.BadKind) = some bK ∧ PySem.W.kitOne K (.ref C) (.ref A.BadOrder) = some bO ∧ PySem.W.kitOne K (.ref C) (.ref A.BadSpot) = some bS ∧ PySem.W.kitOne K (.ref C) (.ref A.BadText) = some bT ∧ PySem.W.kitOne K (.ref C) (.ref A.BadWeb) = some bW ∧
      V.int (([V.bl bK, V.bl bO, V.bl bS, V.bl bT, V.bl bW].countP fun z => eqV z (.bl true) : Nat) : Int) = V.int 1 ∧ [V.bl bK, V.bl bO, V.bl bS, V.bl bT, V.bl bW].findIdx? (fun z => eqV z (.bl true)) = some j ∧
      atI [V.str "kind", V.str "order", V.str "spot", V.str "text", V.str "web"] (j : Int) = some (.str y) := by
    rcases hw with ⟨rfl, rfl⟩ | ⟨rfl, rfl⟩ | ⟨rfl, rfl⟩ | ⟨rfl, rfl⟩ | ⟨rfl, rfl⟩
    · exact ⟨true, false, false, false, false, 0, T.i_BadKind_BadKind, T.i_BadKind_BadOrder, T.i_BadKind_BadSpot, T.i_BadKind_BadText, T.i_BadKind_BadWeb, rfl, rfl, rfl⟩
    · exact ⟨false, true, false, false, false, 1, T.i_BadOrder_BadKind, T.i_BadOrder_BadOrder, T.i_BadOrder_BadSpot, T.i_BadOrder_BadText, T.i_BadOrder_BadWeb, rfl, rfl, rfl⟩
    · exact ⟨false, false, true, false, false, 2, T.i_BadSpot_BadKind, T.i_BadSpot_BadOrder, T.i_BadSpot_BadSpot, T.i_BadSpot_BadText, T.i_BadSpot_BadWeb, rfl, rfl, rfl⟩
    · exact ⟨false, false, false, true, false, 3, T.i_BadText_BadKind, T.i_BadText_BadOrder, T.i_BadText_BadSpot, T.i_BadText_BadText, T.i_BadText_BadWeb, rfl, rfl, rfl⟩
    · exact ⟨false, false, false, false, true, 4, T.i_BadWeb_BadKind, T.i_BadWeb_BadOrder, T.i_BadWeb_BadSpot, T.i_BadWeb_BadText, T.i_BadWeb_BadWeb, rfl, rfl, rfl⟩
  refine ⟨_, rfl, _, _, _, _, _, rfl, rfl, ha, L, h1, _, rfl, _, _, _, _, _, rfl, rfl, ha, L, h2, _, rfl, _, _, _, _, _, rfl, rfl, ha, L, h3, (by show 3 ≤ sizeLine; decide), fun p hp => ?_⟩
  have s1 := same_new (o := .lst [V.bl bK, V.bl bO, V.bl bS]) hp
  refine ⟨_, rfl, _, rfl, _, _, _, _, _, rfl, rfl, s1 _ _ ha, L, h4, _, rfl, _, _, _, _, _, rfl, rfl, s1 _ _ ha, L, h5, (by show 2 ≤ sizeLine; decide), fun p2 hp2 => ?_⟩
  have s2 := same_new (o := .lst [V.bl bT, V.bl bW]) hp2
  refine ⟨_, _, _, _, rfl, rfl, s2 _ _ upd_same, upd_same, (by show 5 ≤ sizeLine; decide), fun p3 hp3 => ?_⟩
  have s3 := same_new (o := .lst ([V.bl bK, V.bl bO, V.bl bS] ++ [V.bl bT, V.bl bW])) hp3
  have ha3 := s3 _ _ (s2 _ _ (s1 _ _ ha))
  refine ⟨_, rfl, .inl ⟨rfl, _, SqL.of upd_same⟩, _, _, _, rfl, rfl, SqL.of upd_same, rfl, rfl, rfl, _, rfl, iteNS h6 ?_⟩
  refine ⟨_, rfl, _, _, _, _, _, rfl, rfl, ha3, L, hV, _, rfl, iteF ?_⟩
  refine ⟨(by show 5 ≤ sizeLine; decide), fun p4 hp4 => ?_⟩
  have s4 := same_new (o := .lst [V.str "kind", V.str "order", V.str "spot", V.str "text", V.str "web"]) hp4
  exact ⟨_, rfl, .inl ⟨rfl, _, SqL.of (s4 _ _ upd_same)⟩, _, _, _, _, rfl, rfl, SqL.of (s4 _ _ upd_same), rfl, rfl, h7, _, _, _, _, rfl, rfl, SqL.of upd_same, h8, q _ (((s1.trans s2).trans s3).trans s4)⟩
theorem row_left (a b c : Nat) : intS a ++ ("-" : Str) ++ intS b ++ (" " : Str) ++ intS c = rowS a b c := by
  unfold rowS
  rw [Str.append_assoc, Str.append_assoc, Str.append_assoc]
theorem sc_law_text : FnScope ["_law_web_here", "_law_rows"] ["_law_web_here"] (defScope s_law_text) := ⟨rfl, rfl, rfl, by decide +kernel, rfl, by decide +kernel, by decide +kernel⟩
theorem nd_law_text_1 : List.Nodup (["_law_one", "_law_other", "_law_weight"] : List Str) := by decide +kernel
theorem ok_law_text (T : Txt K mg A D) {k : Nat} : FnOk P w K mg base (CXF P w) (k + 1) A.law_text D.law_text ["_law_web_here"] spLText := by
  refine T.F_law_text.okF sc_law_text (fun vs H Q E h => ?_) (fun cdv A' outer s H vs Q E hr h => ?_)
  · obtain ⟨_, _, _, rfl, _⟩ := h
    rfl
  obtain ⟨v, n, ts, rfl, dv, win, hw, q⟩ := h
  obtain ⟨hn0, hn8, htt⟩ := webOk_of hw
  obtain ⟨N, rfl⟩ : ∃ N : Nat, n = N := ⟨n.toNat, by omega⟩
  obtain ⟨a, tl, xs, rfl, hwa, htl, dl⟩ := web_of dv
  have hlen : xs.length = ts.length := by rw [← dl.length, List.length_map]
  have hts := win.len
  have hN : N < 1000 := by omega
  have hhl := head_len hN
  have lg : ∀ m : Nat, m < 1000 → ((m : Int)).natAbs.log2 < 1920 := fun m hm => L2.log2_small (by omega)
  refine ⟨_, (pss_cons (ps_set (i := 1) sc_law_text.nd rfl (Or.inl rfl) (pe_lst (pa_cons (pe_op op_add_str pe_str (pe_callTy call_str_int rfl T.z_str bt_str (pa_cons (pe_ix ix_tup (pv 0) pe_int (fun _ _ => rfl)) pa_nil))) pa_nil)))
(pss_one (ps_ret (pe_bm PySem.F.plainAttrs_str PySem.F.slot_str_join PySem.F.type_str_join mt_join pe_str (pa_cons (pe_op op_cat (pv 1) (pe_lc rfl (cn_none (N := ["_law_one", "_law_other", "_law_weight"]) (js := [none, none, none]) rfl rfl (by decide +kernel) (by decide +kernel) (by decide +kernel) rfl (by decide) rfl) (pi_list (pe_ix ix_tup (pv 0) pe_int (fun _ _ => rfl))) (fun _ _ _ _ => (pg_tupK (K := K) (n := 3) rfl rfl (pgs_cons (pg_name (i := 0) nd_law_text_1 rfl (Or.inl rfl) (hf := Or.inr rfl)) (pgs_cons (pg_name (i := 1) nd_law_text_1 rfl (Or.inl rfl) (hf := Or.inr rfl)) (pgs_cons (pg_name (i := 2) nd_law_text_1 rfl (Or.inl rfl) (hf := Or.inr rfl)) pgs_nil))) rfl rfl)) (fun _ _ _ _ => pts_nil) (fun _ _ _ _ => (pe_op op_add_str (pe_op op_add_str (pe_op op_add_str (pe_op op_add_str (pe_callTy call_str_int rfl T.z_str bt_str (pa_cons (pv 0) pa_nil)) pe_str) (pe_callTy call_str_int rfl T.z_str bt_str (pa_cons (pv 1) pa_nil))) pe_str) (pe_callTy call_str_int rfl T.z_str bt_str (pa_cons (pv 2) pa_nil)))))) pa_nil))))), ?_⟩
  refine ⟨_, rfl, _, _, _, _, rfl, rfl, SqT.of hwa, rfl, (N : Int), rfl, lg N hN, ("places " : Str), intS N, rfl, rfl, (by rw [← Str.length_append, sizeLine_eq]; omega), (by show 1 ≤ sizeLine; decide), fun p1 hp1 => ?_⟩
  obtain ⟨s1, n1⟩ := new_pair (o := .lst [V.str (("places " : Str) ++ intS N)]) hp1
  refine ⟨rfl, _, rfl, _, rfl, _, _, _, _, rfl, rfl, SqT.of (s1 _ _ hwa), rfl, tl, rfl, ⟨xs, SqL.of (s1 _ _ htl)⟩, ?_⟩
  refine lc_in (fun σ => ∃ x y z, σ = [x, y, z]) ts.length (fun i => .str (ofL (rowL (iN (ts.getD i []))))) ⟨none, none, none, rfl⟩ ?_ ?_ (by rw [sizeLine_eq]; omega) ?_ ?_
  · intro i H4 hi4 e4
    have hx : i < xs.length := by omega
    exact ⟨xs, xs[i], SqL.of (e4 _ _ (s1 _ _ htl)), List.getElem?_eq_getElem hx⟩
  · intro H4 e4
    exact ⟨xs, SqL.of (e4 _ _ (s1 _ _ htl)), by omega⟩
  · rintro Dd i x σ2 H4 H5 Nx hi4 e4 hD ⟨x1, y1, z1, rfl⟩ ⟨rfl, hx⟩ fin
    obtain ⟨t, htt2⟩ : ∃ t, ts[i]? = some t := ⟨ts[i], List.getElem?_eq_getElem hi4⟩
    obtain ⟨ta, hxa, hta⟩ := tie_at (dl.mono (s1.trans e4)) htt2
    have hx2 := hx xs (SqL.of (e4 _ _ (s1 _ _ htl)))
    rw [hxa] at hx2
    cases hx2
    have htd : ts.getD i [] = t := by rw [List.getD_eq_getElem?_getD, htt2]; rfl
    obtain ⟨pa, pb, pc, rfl, h1, h2, h3⟩ := tie_nat (htt t (List.mem_of_getElem? htt2)) hn8
    have g1 : (intS pa).length ≤ 3 := int_len h1
    have g2 : (intS pb).length ≤ 3 := int_len h2
    have g3 : (intS pc).length ≤ 3 := int_len h3
    have g4 : (("-" : Str)).length = 1 := by decide +kernel
    have g5 : ((" " : Str)).length = 1 := by decide +kernel
    refine ⟨ta, _, rfl, SqT.of hta, rfl, _, _, rfl, _, _, rfl, _, _, rfl, rfl, ?_⟩
    refine ⟨_, rfl, (pa : Int), rfl, lg pa h1, intS pa, ("-" : Str), rfl, rfl, (by rw [sizeLine_eq]; omega), _, rfl, (pb : Int), rfl, lg pb h2, intS pa ++ ("-" : Str), intS pb, rfl, rfl, (by rw [Str.length_append, sizeLine_eq]; omega), intS pa ++ ("-" : Str) ++ intS pb, (" " : Str), rfl, rfl, (by rw [Str.length_append, Str.length_append, sizeLine_eq]; omega),
      _, rfl, (pc : Int), rfl, lg pc h3, intS pa ++ ("-" : Str) ++ intS pb ++ (" " : Str), intS pc, rfl, rfl, (by rw [Str.length_append, Str.length_append, Str.length_append, sizeLine_eq]; omega), ?_⟩
    refine fin _ _ _ ⟨_, _, _, rfl⟩ (Same.refl _) ?_
    rw [htd, row_left]
    have : ofL (rowL (iN [(pa : Int), (pb : Int), (pc : Int)])) = rowS pa pb pc := ls_inj (by rw [row_txt, ls_ofL]; rfl)
    rw [this]
    exact .str
  · intro Dd ys H4 hD e4 hy dy
    have z : (List.range ts.length).map (fun i => PyData.str (ofL (rowL (iN (ts.getD i []))))) = (ts.map fun t => ofL (rowL (iN t))).map .str := by
      rw [map_range_get (fun t => PyData.str (ofL (rowL (iN t)))) [] ts, List.map_map]
      rfl
    rw [z] at dy
    rw [datL_strs dy] at hy
    have hyl : ((ts.map fun t => ofL (rowL (iN t))).map V.str).length = ts.length := by rw [List.length_map, List.length_map]
    refine ⟨_, _, _, _, rfl, rfl, e4 _ _ n1, hy, (by rw [sizeLine_eq, hyl]; show 1 + _ ≤ _; omega), fun p2 hp2 => ?_⟩
    obtain ⟨s2, n2⟩ := new_pair (o := .lst ([V.str (("places " : Str) ++ intS N)] ++ (ts.map fun t => ofL (rowL (iN t))).map V.str)) hp2
    have hps : [V.str (("places " : Str) ++ intS N)] ++ (ts.map fun t => ofL (rowL (iN t))).map V.str = ((("places " : Str) ++ intS N) :: ts.map fun t => ofL (rowL (iN t))).map V.str := rfl
    rw [hps] at n2 ⊢
    refine ⟨_, _, _, rfl, rfl, SqL.of n2, ?_, ?_⟩
    · refine join_ok (fun y hy' => ?_) (by rw [List.length_cons, List.length_map]; omega)
      rcases List.mem_cons.mp hy' with rfl | hy'
      · omega
      · obtain ⟨t, ht, rfl⟩ := List.mem_map.mp hy'
        obtain ⟨pa, pb, pc, rfl, h1, h2, h3⟩ := tie_nat (htt t ht) hn8
        have : ofL (rowL (iN [(pa : Int), (pb : Int), (pc : Int)])) = rowS pa pb pc := ls_inj (by rw [row_txt, ls_ofL]; rfl)
        rw [this]
        exact row_len h1 h2 h3
    · have hj : Txt.join ("\n" : Str) ((("places " : Str) ++ intS N) :: ts.map fun t => ofL (rowL (iN t))) = txtS N ts := by
        refine txt_of ?_
        rw [List.map_cons, head_txt, Int.toNat_natCast, List.map_map]
        unfold iT
        rw [List.map_map]
        rfl
      rw [hj]
      exact q _ (s1.trans (e4.trans s2))
theorem sc_law_numbers : FnScope ["_law_words", "_law_found", "_law_word"] ["_law_words"] (defScope s_law_numbers) := ⟨rfl, rfl, rfl, by decide +kernel, rfl, by decide +kernel, by decide +kernel⟩
theorem nd_law_numbers_1 : List.Nodup (["_law_one"] : List Str) := by decide +kernel
theorem ok_law_numbers (T : Txt K mg A D) {k : Nat} : FnOk P w K mg base (CXF P w) (k + 1) A.law_numbers D.law_numbers ["_law_words"] (spLNumbers K) := by
  refine T.F_law_numbers.okF sc_law_numbers (fun vs H Q E h => ?_) (fun cdv A' outer s H vs Q E hr h => ?_)
  · obtain ⟨_, _, rfl, _⟩ := h
    rfl
  obtain ⟨l, ws, rfl, hS, hwl, hws, q, qn⟩ := h
  have lg : ∀ m : Nat, m < 1000 → ((m : Int)).natAbs.log2 < 1920 := fun m hm => L2.log2_small (by omega)
  refine ⟨_, (pss_cons (ps_set (i := 1) sc_law_numbers.nd rfl (Or.inl rfl) (pe_lst pa_nil))
(pss_cons (ps_for passesOwn_cx rfl (pi_list (pv 0)) (pg_name (i := 2) sc_law_numbers.nd rfl (Or.inl rfl))
(pss_cons (ps_if (PW.pt (pw_or (pt_cmpR op_eq (pv 2) pe_str (nomark _)) (pw_or (pt_cmpR op_gt (pe_callB call_len_str rfl T.z_len PySem.boot_len (pa_cons (pv 2) pa_nil)) pe_int (nomark _)) (pw_or (pt_not (pt_val (pe_callB (call_allB rfl) rfl T.z_all bt_all (pa_cons (pe_lc rfl (cn_none (N := ["_law_one"]) (js := [none]) rfl rfl (by decide +kernel) (by decide +kernel) (by decide +kernel) rfl (by decide) rfl) (pi_str (pv 2)) (fun _ _ _ _ => (pg_name (i := 0) nd_law_numbers_1 rfl (Or.inl rfl) (hf := Or.inr rfl))) (fun _ _ _ _ => pts_nil) (fun _ _ _ _ => (pe_cmpR op_in_str (pv 0) pe_str (by with_unfolding_all rfl)))) pa_nil)))) (pw_or1 (pt_cmpR op_ne (pe_callTy call_str_int rfl T.z_str bt_str (pa_cons (pe_callTy call_int_str rfl T.z_int bt_int (pa_cons (pv 2) pa_nil)) pa_nil)) (pv 2) (nomark _)))))))
(pss_one (ps_ret pe_non))
pss_nil)
(pss_one (ps_expr (pe_bm PySem.F.plainAttrs_list PySem.F.slot_list_append PySem.F.type_list_append mt_append (pv 1) (pa_cons (pe_callTy call_int_str rfl T.z_int bt_int (pa_cons (pv 2) pa_nil)) pa_nil))))))
(pss_one (ps_ret (pe_callTy call_tuple_of rfl T.z_tuple bt_tuple (pa_cons (pv 1) pa_nil)))))), ?_⟩
  refine ⟨(by show 0 ≤ sizeLine; decide), fun p1 hp1 => ?_⟩
  obtain ⟨s1, n1⟩ := new_pair (o := .lst []) hp1
  refine ⟨_, rfl, l, rfl, ⟨_, s1.seq hS⟩, ?_⟩
  refine for_in ws.length (fun i σ H' => ∃ v2 ms, σ = [some (.ref l), some (.ref p1), v2] ∧ Same H H' ∧ allN numL ((ws.take i).map ls) = some ms ∧ H' p1 = some (.lst ((nI ms).map .int)))
    ⟨none, [], rfl, s1, rfl, n1⟩ ?_ ?_ ?_ ?_
  · rintro i σ H' hi ⟨v2, ms, rfl, e, hm, hg⟩
    exact ⟨_, .str ws[i], e.seq hS, by rw [List.getElem?_map, List.getElem?_eq_getElem hi]; rfl⟩
  · rintro σ H' ⟨v2, ms, rfl, e, hm, hg⟩
    exact ⟨_, e.seq hS, by rw [List.length_map]; exact Nat.le_refl _⟩
  · rintro i x σ H2 H3 hi ⟨v2, ms, rfl, e, hm, hg⟩ ⟨rfl, hx⟩
    have hx2 := hx _ (e.seq hS)
    rw [List.getElem?_map, List.getElem?_eq_getElem hi] at hx2
    cases hx2
    obtain ⟨w, hwe⟩ : ∃ w, ws[i] = w := ⟨_, rfl⟩
    rw [hwe]
    have hmem : w ∈ ws := by rw [← hwe]; exact List.getElem_mem hi
    obtain ⟨hlen, ha⟩ := hws w hmem
    have hll := ls_len w
    have bad : numL (ls w) = none → allN numL (ws.map ls) = none := fun z => all_none (List.mem_map.mpr ⟨w, hmem, rfl⟩) z
    refine ⟨_, rfl, rfl, _, rfl, ?_⟩
    by_cases c0 : V.str w = V.str ""
    · refine ifT (decide_eq_true c0) (iteT ?_)
      refine qn (bad ?_) _ e
      have : w = "" := V.str.inj c0
      rw [this]
      decide +kernel
    refine ifF (decide_eq_false c0) ?_
    have h1 : 1 ≤ w.length := by
      refine Classical.byContradiction fun z => c0 (congrArg V.str (ls_inj ?_))
      have : (ls w) = [] := List.length_eq_zero_iff.mp (by omega)
      rw [this]
      decide +kernel
    refine ⟨_, rfl, w, rfl, (by rw [sizeLine_eq]; omega), _, _, rfl, rfl, _, rfl, ?_⟩
    by_cases c1 : (3 : Int) < w.length
    · refine ifT (decide_eq_true c1) (iteT ?_)
      exact qn (bad (numL_none (.inl fun z => by omega))) _ e
    refine ifF (decide_eq_false c1) ?_
    have h3 : w.length ≤ 3 := by omega
    refine ⟨_, rfl, w, rfl, asc_all ha, ?_⟩
    refine lc_in (fun σ => ∃ x, σ = [x]) w.length (fun i => .bool (isD ((ls w).getD i 0))) ⟨none, rfl⟩ (fun i H3 hi e3 => hi) (fun H3 e3 => Nat.le_refl _) (by rw [sizeLine_eq]; omega) ?_ ?_
    · rintro Dd i x σ2 H4 H5 Nx hi e4 hD ⟨x1, rfl⟩ ⟨rfl, c, hc, rfl⟩ fin
      refine ⟨_, rfl, _, _, rfl, rfl, ?_⟩
      rw [fig_in]
      have hcd : (ls w).getD i 0 = c := by
        rw [List.getD_eq_getElem?_getD]
        show (w.cps.toList[i]?).getD 0 = c
        rw [Array.getElem?_toList, hc]
        rfl
      refine fin _ _ _ ⟨_, rfl⟩ (Same.refl _) ?_
      rw [hcd]
      exact .bool
    intro D1 ys1 H4 hD1 e4 hy1 dy1
    have z1 : (List.range w.length).map (fun i => PyData.bool (isD ((ls w).getD i 0))) = ((List.range w.length).map fun i => isD ((ls w).getD i 0)).map .bool := by rw [List.map_map]; rfl
    rw [z1] at dy1
    rw [datL_bools dy1] at hy1
    refine ⟨D1, _, rfl, SqL.of hy1, _, rfl, ?_⟩
    have hg4 := e4 _ _ hg
    have e4' := e.trans e4
    by_cases c3 : ∀ c ∈ ls w, 48 ≤ c ∧ c ≤ 57
    · rw [all_digs.mpr c3]
      refine ifF rfl ?_
      have hwn := word_num h1 h3 c3
      have hv : valL (ls w) < 1000 := by
        have hz := num_zero (w := ls w) (by omega) (by omega) c3
        have : ∀ l : List Nat, l.length ≤ 3 → (∀ c ∈ l, 48 ≤ c ∧ c ≤ 57) → valL l < 1000 := by
          intro l h hd
          match l, h, hd with
          | [], _, _ => exact (by decide : valL [] < 1000)
          | [a], _, hd =>
            have := hd a (.head _)
            show 0 * 10 + (a - 48) < 1000
            omega
          | [a, b], _, hd =>
            have := hd a (.head _)
            have := hd b (.tail _ (.head _))
            show (0 * 10 + (a - 48)) * 10 + (b - 48) < 1000
            omega
          | [a, b, c], _, hd =>
            have := hd a (.head _)
            have := hd b (.tail _ (.head _))
            have := hd c (.tail _ (.tail _ (.head _)))
            show ((0 * 10 + (a - 48)) * 10 + (b - 48)) * 10 + (c - 48) < 1000
            omega
          | _ :: _ :: _ :: _ :: _, h, _ => exact absurd h (by simp)
        exact this _ (by omega) c3
      refine ⟨_, rfl, w, _, rfl, by omega, digs_val c3 h1 h3, _, rfl, lg _ hv, _, rfl, rfl, _, rfl, ?_⟩
      show if (!decide (V.str (intS (valL (ls w))) = V.str w)) = true then _ else _
      by_cases c4 : V.str (intS (valL (ls w))) = V.str w
      · rw [if_pos c4] at hwn
        refine ifF (by rw [decide_eq_true c4]; rfl) ?_
        have hnl : ((nI ms).map V.int).length ≤ 3000 := by
          have := allN_len hm
          unfold nI
          rw [List.length_map, List.length_map, this, List.length_map, List.length_take]
          omega
        refine ⟨_, rfl, .inl ⟨rfl, _, SqL.of hg4⟩, _, rfl, w, _, rfl, by omega, digs_val c3 h1 h3, _, _, _, rfl, rfl, hg4, by rw [sizeLine_eq]; omega, _, ms ++ [valL (ls w)], rfl, e4'.put hp1, ?_, ?_⟩
        · rw [List.take_succ, List.getElem?_eq_getElem hi, hwe, List.map_append]
          exact allN_app hm hwn
        · rw [upd_same]
          unfold nI
          rw [List.map_append, List.map_append]
          rfl
      · rw [if_neg c4] at hwn
        refine ifT (by rw [decide_eq_false c4]; rfl) ?_
        exact qn (bad hwn) _ e4'
    · have hn : numL (ls w) = none := by
        refine numL_none (.inr ?_)
        refine Classical.byContradiction fun z => c3 fun c hc => ?_
        exact Classical.byContradiction fun y => z ⟨c, hc, y⟩
      have hb : ((List.range w.length).map fun i => isD ((ls w).getD i 0)).all id = false := Bool.eq_false_iff.mpr fun z => c3 (all_digs.mp z)
      rw [hb]
      refine ifT rfl (iteT ?_)
      exact qn (bad hn) _ e4'
  · rintro σ H' ⟨v2, ms, rfl, e, hm, hg⟩
    rw [List.take_length] at hm
    refine ⟨_, rfl, p1, _, rfl, .inl ⟨SqL.of hg, fun p2 hp2 => ?_⟩⟩
    obtain ⟨s2, n2⟩ := new_pair (o := .tup ((nI ms).map V.int)) hp2
    exact q ms hm p2 _ (e.free hp2) (e.trans s2) n2
theorem sc_law_tried : FnScope ["_law_text_here", "_law_rows", "_law_many", "_law_ties", "_law_row", "_law_parts", "_law_numbers_here"] ["_law_text_here"] (defScope s_law_tried) := ⟨rfl, rfl, rfl, by decide +kernel, rfl, by decide +kernel, by decide +kernel⟩
theorem ok_law_tried (T : Txt K mg A D) {k : Nat} (G_law_numbers : FnOk P w K mg base (CXF P w) k A.law_numbers D.law_numbers ["_law_words"] (spLNumbers K)) : FnOk P w K mg base (CXF P w) (k + 1) A.law_tried D.law_tried ["_law_text_here"] spLTried := by
  refine T.F_law_tried.okF sc_law_tried (fun vs H Q E h => ?_) (fun cdv A' outer s H vs Q E hr h => ?_)
  · obtain ⟨_, rfl, _⟩ := h
    rfl
  obtain ⟨t, rfl, hlen, ha, q, qn⟩ := h
  refine ⟨_, (pss_cons (ps_set (i := 1) sc_law_tried.nd rfl (Or.inl rfl) (pe_bm PySem.F.plainAttrs_str PySem.F.slot_str_split PySem.F.type_str_split mt_split (pv 0) (pa_cons pe_str pa_nil)))
(pss_cons (ps_set (i := 2) sc_law_tried.nd rfl (Or.inl rfl) (pe_call G_law_numbers hr rfl T.m_law_numbers T.F_law_numbers.kp T.b_law_numbers .nil pass0F (pa_cons (pe_lst (pa_cons (pe_slice sl_str (pe_ix ix_list (pv 1) pe_int (fun _ _ => rfl)) (po_some pe_int) po_none) pa_nil)) pa_nil)))
(pss_cons (ps_if (PW.pt (pw_or (pt_cmpR op_ne (pe_slice sl_str (pe_ix ix_list (pv 1) pe_int (fun _ _ => rfl)) po_none (po_some pe_int)) pe_str (nomark _)) (pw_or1 (pt_cmp (pc_isN (pv 2))))))
(pss_one (ps_ret pe_non))
pss_nil)
(pss_cons (ps_set (i := 3) sc_law_tried.nd rfl (Or.inl rfl) (pe_lst pa_nil))
(pss_cons (ps_for passesOwn_cx rfl (pi_list (pe_slice sl_list (pv 1) (po_some pe_int) po_none)) (pg_name (i := 4) sc_law_tried.nd rfl (Or.inl rfl))
(pss_cons (ps_set (i := 5) sc_law_tried.nd rfl (Or.inl rfl) (pe_bm PySem.F.plainAttrs_str PySem.F.slot_str_split PySem.F.type_str_split mt_split (pv 4) (pa_cons pe_str pa_nil)))
(pss_cons (ps_set (i := 6) sc_law_tried.nd rfl (Or.inl rfl) (pe_call G_law_numbers hr rfl T.m_law_numbers T.F_law_numbers.kp T.b_law_numbers .nil pass0F (pa_cons (pe_op op_cat (pe_bm PySem.F.plainAttrs_str PySem.F.slot_str_split PySem.F.type_str_split mt_split (pe_ix ix_list (pv 5) pe_int (fun _ _ => rfl)) (pa_cons pe_str pa_nil)) (pe_slice sl_list (pv 5) (po_some pe_int) po_none)) pa_nil)))
(pss_cons (ps_if (PW.pt (pw_or (pt_cmpR op_ne (pe_callB call_len_seq rfl T.z_len PySem.boot_len (pa_cons (pv 5) pa_nil)) pe_int (nomark _)) (pw_or (pt_cmp (pc_isN (pv 6))) (pw_or1 (pt_cmpR op_ne (pe_callB call_len_seq rfl T.z_len PySem.boot_len (pa_cons (pv 6) pa_nil)) pe_int (nomark _))))))
(pss_one (ps_ret pe_non))
pss_nil)
(pss_one (ps_expr (pe_bm PySem.F.plainAttrs_list PySem.F.slot_list_append PySem.F.type_list_append mt_append (pv 3) (pa_cons (pv 6) pa_nil))))))))
(pss_one (ps_ret (pe_tup (pa_cons (pe_ix ix_tup (pv 2) pe_int (fun _ _ => rfl)) (pa_cons (pv 3) pa_nil)))))))))), ?_⟩
  refine ⟨_, rfl, rfl, _, _, rfl, rfl, by decide, by rw [sizeLine_eq]; omega, fun p1 hp1 => ?_⟩
  rw [nl_str, split_eq]
  have hsm := split_smallC 10 hlen ha
  have hmany := split_manyC 10 hlen
  simp only [parse_eq] at q qn
  cases hrs : splitC 10 (ls t) with
  | nil => exact absurd hrs (splitC_ne 10 _)
  | cons r0 rest =>
    rw [hrs] at q qn hsm hmany
    obtain ⟨s1, n1⟩ := new_pair (o := .lst (((r0 :: rest).map ofL).map V.str)) hp1
    obtain ⟨w0, w1⟩ := hsm r0 (.head _)
    have q' : ∀ n ts, ((placesL r0).bind fun n => (allN tieL rest).map fun ts => (n, ts)) = some (n, ts) → ∀ v H', Same H H' → Dat H' (webD n (nT ts)) v → Q v H' := q
    have qn' : ((placesL r0).bind fun n => (allN tieL rest).map fun ts => (n, ts)) = none → ∀ H', Same H H' → Q .non H' := qn
    have hsl := ls_from (ofL r0) 7
    have hst := ls_to (ofL r0) 7
    rw [ls_ofL] at hsl hst
    obtain ⟨v0, v1⟩ := str_sub (x := ofL r0) hsl ⟨fun c hc => List.mem_of_mem_drop hc, by rw [List.length_drop, ls_ofL]; omega⟩ w1 w0
    have hrl : rest.length ≤ 1000 := by rw [List.length_cons] at hmany; omega
    refine ⟨_, rfl, _, _, _, _, rfl, rfl, SqL.of n1, atI_nat (j := 0) rfl, _, rfl, ofL r0, rfl, (by rw [sizeLine_eq]; omega), (by show 1 ≤ sizeLine; decide), fun p2 hp2 => ?_⟩
    obtain ⟨s2, n2⟩ := new_pair (o := .lst [V.str (StrLaws.sliceText (ofL r0) (some (7 : Nat)) none)]) hp2
    have s12 := s1.trans s2
    have hne : ∀ {H' : Hp} {X Y : Prop}, ((r0.take 7 = headW) → Y) → ((¬ r0.take 7 = headW) → X) → if (!decide (V.str (StrLaws.sliceText (ofL r0) none (some (7 : Nat))) = V.str "places ")) = true then X else Y := fun {H' X Y} hy hx => by
      have : (V.str (StrLaws.sliceText (ofL r0) none (some (7 : Nat))) = V.str "places ") ↔ r0.take 7 = headW := by
        constructor
        · intro z
          rw [← hst, V.str.inj z]
          exact head_ls
        · intro z
          exact congrArg V.str (ls_inj (by rw [hst, z]; exact head_ls.symm))
      by_cases c : r0.take 7 = headW
      · exact ifF (by rw [decide_eq_true (this.mpr c)]; rfl) (hy c)
      · exact ifT (by rw [decide_eq_false fun z => c (this.mp z)]; rfl) (hx c)
    refine ⟨p2, [StrLaws.sliceText (ofL r0) (some (7 : Nat)) none], rfl, SqL.of n2, (by show 1 ≤ 3000; decide), fun w hw => ?_, fun ns hns p3 H3 hp3 e3 hp3t => ?_, fun hnone H3 e3 => ?_⟩
    · rw [List.mem_singleton.mp hw]
      exact ⟨v0, v1⟩
    · have hns : allN numL [ls (StrLaws.sliceText (ofL r0) (some (7 : Nat)) none)] = some ns := hns
      rw [hsl] at hns
      obtain ⟨n, hn, rfl⟩ : ∃ n, numL (r0.drop 7) = some n ∧ ns = [n] := by
        unfold allN at hns
        cases hz : numL (r0.drop 7) with
        | none => rw [hz] at hns; cases hns
        | some n =>
          rw [hz] at hns
          exact ⟨n, rfl, (Option.some.inj hns).symm⟩
      have s13 := s12.trans e3
      have n13 := e3 _ _ (s2 _ _ n1)
      refine ⟨_, rfl, _, _, _, _, rfl, rfl, SqL.of n13, atI_nat (j := 0) rfl, _, rfl, ofL r0, rfl, (by rw [sizeLine_eq]; omega), rfl, _, rfl, ?_⟩
      refine hne (H' := H3) (fun c => ?_) (fun c => iteT (qn' (by unfold placesL; rw [if_neg c]; rfl) _ s13))
      have hpl : placesL r0 = some n := by unfold placesL; rw [if_pos c]; exact hn
      have hn1000 : n < 1000 := numL_lt hn
      refine ⟨_, rfl, _, rfl, iteDF (fun z => nomatch z) ?_⟩
      refine ⟨(by show 0 ≤ sizeLine; decide), fun p4 hp4 => ?_⟩
      obtain ⟨s4, n4⟩ := new_pair (o := .lst []) hp4
      refine ⟨_, rfl, _, rfl, p1, _, rfl, SqL.of (s4 _ _ n13), fun p5 hp5 => ?_⟩
      have hcut : cutV (((r0 :: rest).map ofL).map V.str) (some 1) none = (rest.map ofL).map V.str := cut_drop (k := 1)
      rw [hcut]
      obtain ⟨s5, n5⟩ := new_pair (o := .lst ((rest.map ofL).map V.str)) hp5
      refine ⟨p5, rfl, ⟨_, SqL.of n5⟩, ?_⟩
      have hgetr : ∀ i, i < rest.length → ((rest.map ofL).map V.str)[i]? = some (.str (ofL (rest.getD i []))) := fun i hi => by
        rw [List.getElem?_map, List.getElem?_map, List.getElem?_eq_getElem hi, List.getD_eq_getElem?_getD, List.getElem?_eq_getElem hi]
        rfl
      generalize hH5 : upd (upd H3 p4 (HO.lst [])) p5 (HO.lst ((rest.map ofL).map V.str)) = H5 at *
      have n45 : H5 p4 = some (.lst []) := s5 _ _ n4
      have e35 : Same H3 H5 := s4.trans s5
      refine for_in rest.length (fun i σ H' => ∃ v4 v5 v6 ts ys, σ = [some (.str t), some (.ref p1), some (.ref p3), some (.ref p4), v4, v5, v6] ∧ Same H3 H' ∧ H' p5 = some (.lst ((rest.map ofL).map V.str)) ∧ allN tieL (rest.take i) = some ts ∧ H' p4 = some (.lst ys) ∧ DatL (mask p4 H') ((nT ts).map tieD) ys)
        ⟨none, none, none, [], [], rfl, e35, n5, rfl, n45, .nil⟩ ?_ ?_ ?_ ?_
      · rintro i σ H' hi ⟨v4, v5, v6, ts, ys, rfl, e, h5, ht, h4, dy⟩
        exact ⟨_, _, SqL.of h5, hgetr i hi⟩
      · rintro σ H' ⟨v4, v5, v6, ts, ys, rfl, e, h5, ht, h4, dy⟩
        exact ⟨_, SqL.of h5, by rw [List.length_map, List.length_map]; exact Nat.le_refl _⟩
      · rintro i x σ H6 H7 hi ⟨v4, v5, v6, ts, ys, rfl, e, h5, ht, h4, dy⟩ ⟨rfl, hx⟩
        have hx2 := hx _ (SqL.of h5)
        rw [hgetr i hi] at hx2
        cases hx2
        obtain ⟨r, hre⟩ : ∃ r, rest.getD i [] = r := ⟨_, rfl⟩
        have hri : rest[i]? = some r := by rw [← hre, List.getD_eq_getElem?_getD, List.getElem?_eq_getElem hi]; rfl
        rw [hre]
        have hmem : r ∈ rest := List.mem_of_getElem? hri
        obtain ⟨r1, r2⟩ := hsm r (.tail _ hmem)
        have bad : tieL r = none → ∀ H', Same H H' → Q .non H' := fun z => qn' (by rw [all_none hmem z, hpl]; rfl)
        have sH := s13.trans e
        refine ⟨_, rfl, rfl, _, _, rfl, rfl, by decide, by rw [sizeLine_eq]; omega, fun p6 hp6 => ?_⟩
        rw [sp_str, split_eq, ls_ofL]
        have hpm := split_smallC 32 r1 r2
        have hpn := split_manyC 32 r1
        rw [ls_ofL] at hpm hpn
        have hlt := law_tie r
        unfold lawTie at hlt
        cases hps : splitC 32 r with
        | nil => exact absurd hps (splitC_ne 32 _)
        | cons pa pr =>
          rw [hps] at hpm hpn hlt
          obtain ⟨s6, n6⟩ := new_pair (o := .lst (((pa :: pr).map ofL).map V.str)) hp6
          obtain ⟨b1, b2⟩ := hpm pa (.head _)
          refine ⟨_, rfl, _, _, _, _, rfl, rfl, SqL.of n6, atI_nat (j := 0) rfl, rfl, _, _, rfl, rfl, by decide, by rw [sizeLine_eq]; omega, fun p7 hp7 => ?_⟩
          rw [da_str, split_eq, ls_ofL]
          have hqm := split_smallC 45 b1 b2
          have hqn := split_manyC 45 b1
          rw [ls_ofL] at hqm hqn
          obtain ⟨s7, n7⟩ := new_pair (o := .lst (((splitC 45 pa).map ofL).map V.str)) hp7
          refine ⟨_, rfl, _, rfl, p6, _, rfl, SqL.of (s7 _ _ n6), fun p8 hp8 => ?_⟩
          have hcut2 : cutV (((pa :: pr).map ofL).map V.str) (some 1) none = (pr.map ofL).map V.str := cut_drop (k := 1)
          rw [hcut2]
          obtain ⟨s8, n8⟩ := new_pair (o := .lst ((pr.map ofL).map V.str)) hp8
          have hl1 : (((splitC 45 pa).map ofL).map V.str).length ≤ 1001 := by rw [List.length_map, List.length_map]; exact hqn
          have hl2 : ((pr.map ofL).map V.str).length ≤ 1000 := by rw [List.length_map, List.length_map]; rw [List.length_cons] at hpn; omega
          refine ⟨_, _, _, _, rfl, rfl, s8 _ _ n7, n8, (by rw [sizeLine_eq]; omega), fun p9 hp9 => ?_⟩
          have hws : ((splitC 45 pa).map ofL).map V.str ++ (pr.map ofL).map V.str = ((splitC 45 pa ++ pr).map ofL).map V.str := by rw [List.map_append, List.map_append]
          rw [hws]
          obtain ⟨s9, n9⟩ := new_pair (o := .lst (((splitC 45 pa ++ pr).map ofL).map V.str)) hp9
          have s69 := s6.trans (s7.trans (s8.trans s9))
          have hlsm : (((splitC 45 pa ++ pr).map ofL).map ls) = splitC 45 pa ++ pr := by rw [List.map_map]; exact List.map_id _
          have hp54 : p5 ≠ p4 := fun z => by rw [z, n4] at hp5; cases hp5
          have hnp : ((((pa :: pr).map ofL).map V.str).length : Int) = ((pa :: pr).length : Int) := by rw [List.length_map, List.length_map]
          refine ⟨p9, (splitC 45 pa ++ pr).map ofL, rfl, SqL.of n9, ?_, fun w hw => ?_, fun ns hns p10 H10 hp10 e10 h10 => ?_, fun hnone H10 e10 => ?_⟩
          · rw [List.length_map, List.length_append]
            rw [List.length_cons] at hpn
            omega
          · obtain ⟨x, hx', rfl⟩ := List.mem_map.mp hw
            rcases List.mem_append.mp hx' with z | z
            · exact hqm x z
            · exact hpm x (.tail _ z)
          · rw [hlsm] at hns
            have hlt : (if (pa :: pr).length = 2 ∧ ns.length = 3 then some ns else none) = tieL r := by
              rw [← hlt]
              show _ = (allN numL (splitC 45 pa ++ pr)).bind _
              rw [hns]
              rfl
            have sA := sH.trans (s69.trans e10)
            refine ⟨_, rfl, _, _, rfl, .inl (SqL.of (e10 _ _ (s9 _ _ (s8 _ _ (s7 _ _ n6))))), rfl, _, rfl, ?_⟩
            dsimp only
            rw [hnp]
            by_cases c1 : (pa :: pr).length = 2
            · refine ifF (by rw [decide_eq_true (show V.int (((pa :: pr).length : Nat) : Int) = V.int 2 by rw [c1]; rfl)]; rfl) ⟨_, rfl, _, rfl, iteDF (fun z => nomatch z) ⟨_, rfl, _, _, rfl, .inr (SqT.of h10), rfl, _, rfl, ?_⟩⟩
              have hnl : (((nI ns).map V.int).length : Int) = (ns.length : Int) := by unfold nI; rw [List.length_map, List.length_map]
              dsimp only
              rw [hnl]
              by_cases c2 : ns.length = 3
              · rw [if_pos ⟨c1, c2⟩] at hlt
                refine ifF (by rw [decide_eq_true (show V.int ((ns.length : Nat) : Int) = V.int 3 by rw [c2]; rfl)]; rfl) ?_
                have h4' := e10 _ _ (s69 _ _ h4)
                have hyl := dy.length
                have htl := allN_len ht
                rw [List.length_map] at hyl
                unfold nT at hyl
                rw [List.length_map, htl, List.length_take] at hyl
                refine ⟨_, rfl, .inl ⟨rfl, _, SqL.of h4'⟩, _, rfl, _, _, _, rfl, rfl, h4', (by rw [sizeLine_eq]; omega), _, _, _, ts ++ [ns], ys ++ [.ref p10], rfl, (e.trans (s69.trans e10)).put hp4, ?_, ?_, ?_, ?_⟩
                · rw [upd_ne hp54]
                  exact e10 _ _ (s69 _ _ h5)
                · rw [List.take_succ, hri]
                  exact allN_app ht hlt.symm
                · rw [upd_same]
                · rw [mask_upd]
                  unfold nT
                  rw [List.map_append, List.map_append]
                  refine (dy.mono (mask_mono (s69.trans e10))).snoc ?_
                  exact Dat.intsT (by rw [mask_ne (ne_new hp10 (s69 _ _ h4))]; exact h10)
              · rw [if_neg fun z => c2 z.2] at hlt
                refine ifT (by rw [decide_eq_false fun z => c2 (by have := V.int.inj z; omega)]; rfl) ?_
                exact bad hlt.symm _ sA
            · rw [if_neg fun z => c1 z.1] at hlt
              refine ifT (by rw [decide_eq_false fun z => c1 (by have := V.int.inj z; omega)]; rfl) (iteT ?_)
              exact bad hlt.symm _ sA
          · rw [hlsm] at hnone
            have hlt : none = tieL r := by
              rw [← hlt]
              show _ = (allN numL (splitC 45 pa ++ pr)).bind _
              rw [hnone]
              rfl
            have sA := sH.trans (s69.trans e10)
            refine ⟨_, rfl, _, _, rfl, .inl (SqL.of (e10 _ _ (s9 _ _ (s8 _ _ (s7 _ _ n6))))), rfl, _, rfl, ?_⟩
            refine ite2 (fun _ => iteT (bad hlt.symm _ sA)) (fun _ => ⟨_, rfl, _, rfl, iteDT rfl (iteT (bad hlt.symm _ sA))⟩)
      · rintro σ H' ⟨v4, v5, v6, ts, ys, rfl, e, h5, ht, h4, dy⟩
        rw [List.take_length] at ht
        have h3' := e _ _ hp3t
        refine ⟨_, rfl, _, _, _, _, rfl, rfl, SqT.of h3', rfl, _, rfl, (by show 2 ≤ sizeLine; decide), fun p6 hp6 => ?_⟩
        obtain ⟨s6, n6⟩ := new_pair (o := .tup [V.int (n : Int), V.ref p4]) hp6
        exact q' n ts (by rw [hpl, ht]; rfl) _ _ ((s13.trans e).trans s6) (web_mk n6 (s6 _ _ h4) (dy.mono (mask_same.trans s6)))
    · have hnone : allN numL [ls (StrLaws.sliceText (ofL r0) (some (7 : Nat)) none)] = none := hnone
      rw [hsl] at hnone
      have hnn : numL (r0.drop 7) = none := by
        cases hz : numL (r0.drop 7) with
        | none => rfl
        | some n => unfold allN at hnone; rw [hz] at hnone; cases hnone
      have hpl : placesL r0 = none := by
        unfold placesL
        split
        · exact hnn
        · rfl
      have s13 := s12.trans e3
      have n13 := e3 _ _ (s2 _ _ n1)
      have qnn := qn' (by rw [hpl]; rfl)
      refine ⟨_, rfl, _, _, _, _, rfl, rfl, SqL.of n13, atI_nat (j := 0) rfl, _, rfl, ofL r0, rfl, (by rw [sizeLine_eq]; omega), rfl, _, rfl, ?_⟩
      refine hne (H' := H3) (fun c => ⟨_, rfl, _, rfl, iteDT rfl (qnn _ s13)⟩) (fun c => iteT (qnn _ s13))
theorem sc_law_is_web : FnScope ["_law_tried_here", "_law_kept", "e"] ["_law_tried_here"] (defScope s_law_is_web) := ⟨rfl, rfl, rfl, by decide +kernel, rfl, by decide +kernel, by decide +kernel⟩
theorem ok_law_is_web (T : Txt K mg A D) {k : Nat} (G_look_web : FnOk P w K mg base (CXF P w) k A.look_web D.look_web ["web"] (spWeb A.er)) : FnOk P w K mg base (CXF P w) (k + 1) A.law_is_web D.law_is_web ["_law_tried_here"] spLIsWeb := by
  refine T.F_law_is_web.okF sc_law_is_web (fun vs H Q E h => ?_) (fun cdv A' outer s H vs Q E hr h => ?_)
  · obtain ⟨_, _, _, rfl, _⟩ := h
    rfl
  obtain ⟨v, n, ts, rfl, dv, win, q⟩ := h
  refine ⟨_, (pss_cons (ps_set (i := 1) sc_law_is_web.nd rfl (Or.inl rfl) pe_non)
(pss_cons (ps_try own_cx rfl rfl T.m_BadWeb T.x_BadWeb rfl sc_law_is_web.nd (i := 2) rfl rfl (fun xe pn E PX => (pss_one (ps_expr (pe_call G_look_web hr rfl T.m_look_web T.F_look_web.kp T.b_look_web .nil PX (pa_cons (pv 0) pa_nil))))) (fun v => (pss_one (ps_set (i := 1) sc_law_is_web.nd rfl (Or.inl rfl) (pv 2)))))
(pss_one (ps_ret (pe_cmp (pc_isN (pv 1))))))), ?_⟩
  refine ⟨fun Cv m H1 => Cv = .ref A.BadWeb ∧ Same H H1 ∧ webOk n ts = false, ?_, ?_⟩
  · refine ⟨_, rfl, v, n, ts, rfl, dv, win, fun hw H1 e1 => ?_, fun hw H1 e1 => ⟨rfl, e1, hw⟩⟩
    refine ⟨_, rfl, ?_⟩
    have := q H1 e1
    rw [hw] at this
    exact this
  · rintro C m H1 ⟨hC, e1, hw⟩
    cases hC
    refine ⟨⟨_, _, T.x_BadWeb⟩, mro_own T.x_BadWeb, fun a H2 e2 ha => ?_⟩
    refine ⟨_, rfl, _, rfl, ?_⟩
    have := q H2 (e1.trans e2)
    rw [hw] at this
    exact this
def spLaw (K : PySem.W.Frag) : Sp := fun vs H Q _ => ∃ (a : Addr) (ns : List Int), vs = [.ref a] ∧ SqL K H a (ns.map .int) ∧ ns.length ≤ 63 ∧ ∀ H', Q (.bl true) H'
theorem join_len {c : Nat} : ∀ {ps : List (List Nat)}, (∀ p ∈ ps, p.length ≤ 11) → (joinC c ps).length ≤ 12 * ps.length
  | [], _ => Nat.zero_le _
  | [p], h => by
    have := h p (.head _)
    show p.length ≤ 12 * 1
    omega
  | p :: q :: r, h => by
    have := h p (.head _)
    have ih := join_len (c := c) (ps := q :: r) fun x hx => h x (.tail _ hx)
    show (p ++ c :: joinC c (q :: r)).length ≤ _
    rw [List.length_append, List.length_cons, List.length_cons]
    omega
theorem join_mem {c x : Nat} : ∀ {ps : List (List Nat)}, x ∈ joinC c ps → x = c ∨ ∃ p ∈ ps, x ∈ p
  | [], h => nomatch h
  | [p], h => .inr ⟨p, .head _, h⟩
  | p :: q :: r, h => by
    have h : x ∈ p ++ c :: joinC c (q :: r) := h
    rcases List.mem_append.mp h with z | z
    · exact .inr ⟨p, .head _, z⟩
    · rcases List.mem_cons.mp z with z | z
      · exact .inl z
      · rcases join_mem z with z | ⟨p2, h1, h2⟩
        · exact .inl z
        · exact .inr ⟨p2, .tail _ h1, h2⟩
theorem text_small {N : Nat} {ts : List (List Int)} (hN : N < 1000) (hl : ts.length ≤ 64) (ht : ∀ t ∈ ts, ∃ a b c : Nat, t = [(a : Int), (b : Int), (c : Int)] ∧ a < 1000 ∧ b < 1000 ∧ c < 1000) : (txtS N ts).length ≤ 800 ∧ asc (txtS N ts) := by
  have hrow : ∀ p ∈ (headW ++ signsL N) :: (iT ts).map rowL, p.length ≤ 11 ∧ ∀ x ∈ p, x < 128 := fun p hp => by
    rcases List.mem_cons.mp hp with rfl | hp
    · have h1 := head_len hN
      rw [← ls_len, head_txt] at h1
      refine ⟨by omega, fun x hx => ?_⟩
      rcases List.mem_append.mp hx with z | z
      · have hh : ∀ y ∈ headW, y < 128 := by decide
        exact hh x z
      · have := (numL_digits (signs_num N hN)).2 x z
        omega
    · obtain ⟨t, h, rfl⟩ := List.mem_map.mp hp
      obtain ⟨u, hu, rfl⟩ := List.mem_map.mp h
      obtain ⟨a, b, c, rfl, h1, h2, h3⟩ := ht u hu
      have e : rowL (iN [(a : Int), (b : Int), (c : Int)]) = ls (rowS a b c) := by rw [row_txt]; rfl
      rw [e]
      refine ⟨by rw [ls_len]; exact row_len h1 h2 h3, fun x hx => ?_⟩
      rw [row_txt] at hx
      have d : ∀ m : Nat, m < 1000 → x ∈ signsL m → x < 128 := fun m hm z => by
        have := (numL_digits (signs_num m hm)).2 x z
        omega
      rcases List.mem_append.mp hx with z | z
      · exact d a h1 z
      · rcases List.mem_cons.mp z with z | z
        · omega
        · rcases List.mem_append.mp z with z | z
          · exact d b h2 z
          · rcases List.mem_cons.mp z with z | z
            · omega
            · exact d c h3 z
  have h1 := join_len (c := 10) fun p hp => (hrow p hp).1
  rw [List.length_cons, List.length_map] at h1
  unfold iT at h1
  rw [List.length_map] at h1
  constructor
  · rw [← ls_len]
    show (textL ((N : Int)).toNat (iT ts)).length ≤ 800
    rw [Int.toNat_natCast]
    exact Nat.le_trans h1 (by omega)
  · intro x hx
    have hx : x ∈ textL ((N : Int)).toNat (iT ts) := hx
    rw [Int.toNat_natCast] at hx
    rcases join_mem hx with z | ⟨p, hp, hx⟩
    · omega
    · exact (hrow p hp).2 x hx
theorem pick3 {p1 p2 p3 : V} {i : Int} {Z : V → Prop} (h0 : 0 ≤ i) (h7 : i < 3) (z1 : Z p1) (z2 : Z p2) (z3 : Z p3) : ∃ v, atI [p1, p2, p3] i = some v ∧ Z v := by
  have : i = 0 ∨ i = 1 ∨ i = 2 := by omega
  rcases this with rfl | rfl | rfl
  · exact ⟨p1, rfl, z1⟩
  · exact ⟨p2, rfl, z2⟩
  · exact ⟨p3, rfl, z3⟩
theorem signs11 : ls ("0123 -\nplc7" : Str) = [48, 49, 50, 51, 32, 45, 10, 112, 108, 99, 55] := by decide +kernel
theorem pick11 {i : Int} (h0 : 0 ≤ i) (h7 : i < 11) : ∃ c, atI (("0123 -\nplc7" : Str)).cps.toList i = some c ∧ c < 128 := by
  obtain ⟨j, rfl⟩ : ∃ j : Nat, i = j := ⟨i.toNat, by omega⟩
  have hj : j < 11 := by omega
  have hg : ∀ j < 11, ∃ c, ([48, 49, 50, 51, 32, 45, 10, 112, 108, 99, 55] : List Nat)[j]? = some c ∧ c < 128 := by decide
  obtain ⟨c, h1, h2⟩ := hg j hj
  refine ⟨c, atI_nat ?_, h2⟩
  rw [show (("0123 -\nplc7" : Str)).cps.toList = ls ("0123 -\nplc7" : Str) from rfl, signs11]
  exact h1
theorem bad9 : webOk 9 [] = false := by decide
theorem sc_law : FnScope ["_law_script", "_law_web_here", "_law_text_here", "_law_k", "_law_number", "_law_at", "_law_one", "_law_some", "_law_kept", "_law_found", "e", "_law_tried_here"] ["_law_script"] (defScope s_law) := ⟨rfl, rfl, rfl, by decide +kernel, rfl, by decide +kernel, by decide +kernel⟩
theorem ok_law (T : Txt K mg A D) {k : Nat} (G_law_mix : FnOk P w K mg base (CXF P w) k A.law_mix D.law_mix ["_law_script", "_law_k"] (spMix K)) (G_law_web : FnOk P w K mg base (CXF P w) k A.law_web D.law_web ["_law_script", "_law_k", "_law_places"] (spLWeb K)) (G_law_text : FnOk P w K mg base (CXF P w) k A.law_text D.law_text ["_law_web_here"] spLText)
    (G_law_tried : FnOk P w K mg base (CXF P w) k A.law_tried D.law_tried ["_law_text_here"] spLTried) (G_law_is_web : FnOk P w K mg base (CXF P w) k A.law_is_web D.law_is_web ["_law_tried_here"] spLIsWeb) (G_law_refusal : FnOk P w K mg base (CXF P w) k A.law_refusal D.law_refusal ["_law_kept"] (spRef A.er))
    (G_written : FnOk P w K mg base (CXF P w) k A.written D.written ["web"] (spWritten A.er)) (G_read : FnOk P w K mg base (CXF P w) k A.read D.read ["text"] (spRead A.er)) :
    FnOk P w K mg base (CXF P w) (k + 1) A.law D.law ["_law_script"] (spLaw K) := by
  refine T.F_law.okF sc_law (fun vs H Q E h => ?_) (fun cdv A' outer s H vs Q E hr h => ?_)
  · obtain ⟨_, _, rfl, _⟩ := h
    rfl
  obtain ⟨a, ns, rfl, hS, h63, q⟩ := h
  refine ⟨_, (pss_cons (ps_set (i := 1) sc_law.nd rfl (Or.inl rfl) (pe_call G_law_web hr rfl T.m_law_web T.F_law_web.kp T.b_law_web .nil pass0F (pa_cons (pv 0) (pa_cons pe_int (pa_cons pe_int pa_nil)))))
(pss_cons (ps_set (i := 2) sc_law.nd rfl (Or.inl rfl) (pe_call G_law_text hr rfl T.m_law_text T.F_law_text.kp T.b_law_text .nil pass0F (pa_cons (pv 1) pa_nil)))
(pss_cons (ps_if (PW.pt (pw_or (pt_cmpR op_ne (pe_call G_written hr rfl T.m_written T.F_written.kp T.b_written .nil passes_cx (pa_cons (pv 1) pa_nil)) (pv 2) (nomark _)) (pw_or1 (pt_cmpR (op_neD hr.units) (pe_call G_read hr rfl T.m_read T.F_read.kp T.b_read .nil passes_cx (pa_cons (pv 2) pa_nil)) (pv 1) (nomark _)))))
(pss_one (ps_ret pe_bl))
pss_nil)
(pss_cons (ps_for passesOwn_cx rfl (pi_range1 rfl T.z_range (pa_cons (pe_op op_add pe_int (pe_op op_mod (pe_call G_law_mix hr rfl T.m_law_mix T.F_law_mix.kp T.b_law_mix .nil pass0F (pa_cons (pv 0) (pa_cons pe_int pa_nil))) pe_int)) pa_nil)) (pg_name (i := 3) sc_law.nd rfl (Or.inl rfl))
(pss_cons (ps_set (i := 4) sc_law.nd rfl (Or.inl rfl) (pe_call G_law_mix hr rfl T.m_law_mix T.F_law_mix.kp T.b_law_mix .nil pass0F (pa_cons (pv 0) (pa_cons (pe_op op_add pe_int (pv 3)) pa_nil))))
(pss_cons (ps_set (i := 5) sc_law.nd rfl (Or.inl rfl) (pe_op op_mod (pe_op op_fdiv (pv 4) pe_int) (pe_op op_add (pe_callB call_len_str rfl T.z_len PySem.boot_len (pa_cons (pv 2) pa_nil)) pe_int)))
(pss_cons (ps_set (i := 6) sc_law.nd rfl (Or.inl rfl) (pe_ix ix_str pe_str (pe_op op_mod (pe_op op_fdiv (pv 4) pe_int) pe_int) (fun _ _ => rfl)))
(pss_cons (ps_set (i := 7) sc_law.nd rfl (Or.inl rfl) (pe_lst (pa_cons (pe_op op_add_str (pe_op op_add_str (pe_slice sl_str (pv 2) po_none (po_some (pv 5))) (pv 6)) (pe_slice sl_str (pv 2) (po_some (pv 5)) po_none)) (pa_cons (pe_op op_add_str (pe_op op_add_str (pe_slice sl_str (pv 2) po_none (po_some (pv 5))) (pv 6)) (pe_slice sl_str (pv 2) (po_some (pe_op op_add (pv 5) pe_int)) po_none)) (pa_cons (pe_op op_add_str (pe_slice sl_str (pv 2) po_none (po_some (pv 5))) (pe_slice sl_str (pv 2) (po_some (pe_op op_add (pv 5) pe_int)) po_none)) pa_nil)))))
(pss_one (ps_set (i := 2) sc_law.nd rfl (Or.inl rfl) (pe_ix ix_list (pv 7) (pe_op op_mod (pv 4) pe_int) (fun _ _ => rfl)))))))))
(pss_cons (ps_set (i := 8) sc_law.nd rfl (Or.inl rfl) pe_non)
(pss_cons (ps_set (i := 9) sc_law.nd rfl (Or.inl rfl) pe_non)
(pss_cons (try1_core own_cx rfl rfl T.m_LayError T.x_LayError rfl sc_law.nd (i := 10) rfl rfl (body_set (j := 9) sc_law.nd rfl (Or.inl rfl) G_read hr rfl T.m_read T.F_read.kp T.b_read .nil (pa_cons (pv 2) pa_nil)) (fun v => (pss_one (ps_set (i := 8) sc_law.nd rfl (Or.inl rfl) (pv 10)))))
(pss_cons (ps_set (i := 11) sc_law.nd rfl (Or.inl rfl) (pe_call G_law_tried hr rfl T.m_law_tried T.F_law_tried.kp T.b_law_tried .nil pass0F (pa_cons (pv 2) pa_nil)))
(pss_cons (ps_if (PW.pt (pw_and (pt_cmp (pc_notN (pv 11))) (pw_and1 (pt_val (pe_call G_law_is_web hr rfl T.m_law_is_web T.F_law_is_web.kp T.b_law_is_web .nil pass0F (pa_cons (pv 11) pa_nil))))))
(pss_one (ps_ret (pe_and (pe_cmp (pc_isN (pv 8))) (pe_one (pe_cmpR (op_eqD hr.units) (pv 9) (pv 11) (nomark _))))))
pss_nil)
(pss_cons (ps_if (pt_cmpR op_ne (pe_call G_law_refusal hr rfl T.m_law_refusal T.F_law_refusal.kp T.b_law_refusal .nil pass0F (pa_cons (pv 8) pa_nil)) pe_str (nomark _))
(pss_one (ps_ret pe_bl))
pss_nil)
(pss_cons (ps_set (i := 8) sc_law.nd rfl (Or.inl rfl) pe_non)
(pss_cons (try1_core own_cx rfl rfl T.m_LayError T.x_LayError rfl sc_law.nd (i := 10) rfl rfl (body_expr G_written hr rfl T.m_written T.F_written.kp T.b_written .nil (pa_cons (pe_tup (pa_cons pe_int (pa_cons (pe_lst pa_nil) pa_nil))) pa_nil)) (fun v => (pss_one (ps_set (i := 8) sc_law.nd rfl (Or.inl rfl) (pv 10)))))
(pss_one (ps_ret (pe_cmpR op_eq (pe_call G_law_refusal hr rfl T.m_law_refusal T.F_law_refusal.kp T.b_law_refusal .nil pass0F (pa_cons (pv 8) pa_nil)) pe_str (nomark _)))))))))))))))), ?_⟩
  refine ⟨_, rfl, a, ns, 0, 6, rfl, hS, by decide, by decide, fun wv H1 n ts e1 dw hw win hn6 hl64 => ?_⟩
  obtain ⟨hn0, hn8, htt⟩ := webOk_of hw
  obtain ⟨N, rfl⟩ : ∃ N : Nat, n = N := ⟨n.toNat, by omega⟩
  have hN : N < 1000 := by omega
  have htn : ∀ t ∈ ts, ∃ a b c : Nat, t = [(a : Int), (b : Int), (c : Int)] ∧ a < 1000 ∧ b < 1000 ∧ c < 1000 := fun t ht => tie_nat (htt t ht) hn8
  have nw : ∀ {Z : Prop}, webOk (N : Int) ts = false → Z := fun z => by rw [hw] at z; cases z
  obtain ⟨tl0, ta0⟩ := text_small hN hl64 htn
  have hparse : parse (ls (txtS N ts)) = some (N, iT ts) := by
    show parse (textL ((N : Int)).toNat (iT ts)) = _
    rw [Int.toNat_natCast]
    refine parse_text hN fun t ht => ?_
    obtain ⟨u, hu, rfl⟩ := List.mem_map.mp ht
    obtain ⟨x, y, z, rfl, h1, h2, h3⟩ := htn u hu
    exact ⟨x, y, z, rfl, h1, h2, h3⟩
  have hback : nT (iT ts) = ts := nT_iT fun t ht k hk => by
    obtain ⟨x, y, z, rfl, _⟩ := htn t ht
    have : k = x ∨ k = y ∨ k = z := by simpa using hk
    omega
  refine ⟨_, rfl, wv, N, ts, rfl, dw, win, hw, fun H2 e2 => ?_⟩
  -- written, read
  refine ⟨_, rfl, wv, N, ts, rfl, dw.mono e2, win, fun _ H3 e3 => ⟨_, rfl, rfl, _, rfl, iteNS rfl ?_⟩, fun z => nw z⟩
  refine ⟨_, rfl, txtS N ts, rfl, by omega, ta0, fun m us hp hok v H4 e4 dv => ?_, fun hbad => ?_⟩
  rotate_left
  · have := hbad N (iT ts) hparse
    rw [hback] at this
    exact nw this
  rw [hparse] at hp
  cases hp
  rw [hback] at dv
  have dwe := depth_web N ts
  refine ⟨_, rfl, webD N ts, webD N ts, dv.rep, (dw.mono (e2.trans (e3.trans e4))).rep, lay_web _ _, lay_web _ _, (by omega), _, rfl, ite_ne_same (lay_web _ _) ?_⟩
  have e14 := e1.trans (e2.trans (e3.trans e4))
  have hS4 := e14.seq hS
  clear dv
  -- the text is changed
  have m90 := Int.emod_nonneg (mixI ns 90) (show (2 : Int) ≠ 0 by decide)
  have m90' := Int.emod_lt_of_pos (mixI ns 90) (show (0 : Int) < 2 by decide)
  refine ⟨_, rfl, a, ns, 90, rfl, hS4, _, _, rfl, rfl, (by show (0 : Int) < 2; decide), _, _, rfl, rfl, _, rfl, by omega, by omega, ?_⟩
  refine for_in (1 + mixI ns 90 % 2).toNat (fun i σ H' => ∃ tx v3 v4 v5 v6 v7, σ = [some (.ref a), some wv, some (.str tx), v3, v4, v5, v6, v7, none, none, none, none] ∧ Same H4 H' ∧ asc tx ∧ tx.length ≤ 800 + i)
    ⟨txtS N ts, none, none, none, none, none, rfl, Same.refl _, ta0, by omega⟩ (fun i σ H' hi _ => hi) (fun σ H' _ => Nat.le_refl _) ?_ ?_
  · rintro i x σ H5 H6 hi ⟨tx, v3, v4, v5, v6, v7, rfl, e5, ax, lx⟩ ⟨rfl, rfl⟩
    have hi2 : i < 2 := by omega
    refine ⟨_, rfl, _, rfl, _, _, rfl, rfl, a, ns, _, rfl, e5.seq hS4, ?_⟩
    generalize hnu : mixI ns (91 + (0 + (i : Nat))) = nu
    have nu0 : 0 ≤ nu := by rw [← hnu]; exact mixI_nonneg _ _
    refine ⟨_, rfl, _, _, rfl, rfl, (by show (0 : Int) < 8 ∧ (8 : Int) < 1073741824; decide), _, rfl, tx, rfl, (by rw [sizeLine_eq]; omega), _, _, rfl, rfl, _, _, rfl, rfl, (by show (0 : Int) < _; omega), ?_⟩
    obtain ⟨p, hp, hpl⟩ : ∃ p : Nat, nu / 8 % ((tx.length : Int) + 1) = (p : Int) ∧ p ≤ tx.length := by
      have z1 := Int.emod_nonneg (nu / 8) (show (tx.length : Int) + 1 ≠ 0 by omega)
      have z2 := Int.emod_lt_of_pos (nu / 8) (show (0 : Int) < (tx.length : Int) + 1 by omega)
      exact ⟨(nu / 8 % ((tx.length : Int) + 1)).toNat, by omega, by omega⟩
    dsimp only
    rw [hp]
    obtain ⟨c, hc, hc128⟩ := pick11 (i := nu / 4096 % 11) (Int.emod_nonneg _ (by decide)) (Int.emod_lt_of_pos _ (by decide))
    refine ⟨_, rfl, _, _, rfl, rfl, (by show (0 : Int) < 4096 ∧ (4096 : Int) < 1073741824; decide), _, _, rfl, rfl, (by show (0 : Int) < 11; decide), _, _, c, rfl, rfl, by decide, hc, ?_⟩
    have hsz : tx.length ≤ sizeLine := by rw [sizeLine_eq]; omega
    have lA := ls_to tx p
    have lB := ls_from tx p
    have lC := ls_from tx (p + 1)
    have hp1 : (p : Int) + 1 = ((p + 1 : Nat) : Int) := by omega
    have kA := ls_len (StrLaws.sliceText tx none (some (p : Int)))
    have kB := ls_len (StrLaws.sliceText tx (some (p : Int)) none)
    have kC := ls_len (StrLaws.sliceText tx (some ((p + 1 : Nat) : Int)) none)
    have kx := ls_len tx
    rw [lA, List.length_take] at kA
    rw [lB, List.length_drop] at kB
    rw [lC, List.length_drop] at kC
    have k1 : ((⟨#[c]⟩ : Str)).length = 1 := rfl
    have big : ∀ m : Nat, m ≤ 2000 → m ≤ sizeLine := fun m hm => by rw [sizeLine_eq]; omega
    refine ⟨_, rfl, _, rfl, _, rfl, tx, rfl, hsz, _, rfl, _, _, rfl, rfl, big _ (by omega), _, rfl, _, rfl, _, rfl, tx, rfl, hsz, _, _, rfl, rfl, (by rw [Str.length_append]; exact big _ (by omega)), ?_⟩
    refine ⟨_, rfl, _, rfl, _, rfl, tx, rfl, hsz, _, rfl, _, _, rfl, rfl, big _ (by omega), _, rfl, _, rfl, _, _, rfl, rfl, _, rfl, tx, rfl, hsz, ?_⟩
    rw [hp1]
    refine ⟨_, _, rfl, rfl, (by rw [Str.length_append]; exact big _ (by omega)), ?_⟩
    refine ⟨_, rfl, _, rfl, _, rfl, tx, rfl, hsz, _, rfl, _, rfl, _, _, rfl, rfl, _, rfl, tx, rfl, hsz, ?_⟩
    rw [hp1]
    refine ⟨_, _, rfl, rfl, big _ (by omega), (by show 3 ≤ sizeLine; decide), fun p7 hp7 => ?_⟩
    have aA : asc (StrLaws.sliceText tx none (some (p : Int))) := fun y hy => ax y (List.mem_of_mem_take (by rw [← lA]; exact hy))
    have aB : asc (StrLaws.sliceText tx (some (p : Int)) none) := fun y hy => ax y (List.mem_of_mem_drop (by rw [← lB]; exact hy))
    have aC : asc (StrLaws.sliceText tx (some ((p + 1 : Nat) : Int)) none) := fun y hy => ax y (List.mem_of_mem_drop (by rw [← lC]; exact hy))
    have aO : asc (⟨#[c]⟩ : Str) := fun y hy => by
      have : y = c := by simpa [ls] using hy
      omega
    have aP : ∀ {u v : Str}, asc u → asc v → asc (u ++ v) := fun {u v} hu hv y hy => by
      rw [ls_app] at hy
      rcases List.mem_append.mp hy with z | z
      · exact hu y z
      · exact hv y z
    obtain ⟨s7, n7⟩ := new_pair (o := .lst [V.str (StrLaws.sliceText tx none (some (p : Int)) ++ (⟨#[c]⟩ : Str) ++ StrLaws.sliceText tx (some (p : Int)) none), V.str (StrLaws.sliceText tx none (some (p : Int)) ++ (⟨#[c]⟩ : Str) ++ StrLaws.sliceText tx (some ((p + 1 : Nat) : Int)) none), V.str (StrLaws.sliceText tx none (some (p : Int)) ++ StrLaws.sliceText tx (some ((p + 1 : Nat) : Int)) none)]) hp7
    obtain ⟨tv, htv, ty, rfl, ay, ly⟩ := pick3 (i := nu % 3) (p1 := .str (StrLaws.sliceText tx none (some (p : Int)) ++ (⟨#[c]⟩ : Str) ++ StrLaws.sliceText tx (some (p : Int)) none)) (p2 := .str (StrLaws.sliceText tx none (some (p : Int)) ++ (⟨#[c]⟩ : Str) ++ StrLaws.sliceText tx (some ((p + 1 : Nat) : Int)) none)) (p3 := .str (StrLaws.sliceText tx none (some (p : Int)) ++ StrLaws.sliceText tx (some ((p + 1 : Nat) : Int)) none))
      (Z := fun v => ∃ ty : Str, v = .str ty ∧ asc ty ∧ ty.length ≤ 800 + (i + 1)) (Int.emod_nonneg _ (by decide)) (Int.emod_lt_of_pos _ (by decide))
      ⟨_, rfl, aP (aP aA aO) aB, by rw [Str.length_append, Str.length_append]; omega⟩ ⟨_, rfl, aP (aP aA aO) aC, by rw [Str.length_append, Str.length_append]; omega⟩ ⟨_, rfl, aP aA aC, by rw [Str.length_append]; omega⟩
    exact ⟨_, rfl, _, rfl, _, _, rfl, rfl, (by show (0 : Int) < 3; decide), p7, _, _, _, rfl, rfl, SqL.of n7, htv, ty, _, _, _, _, _, rfl, e5.trans s7, ay, ly⟩
  · rintro σ H5 ⟨tx, v3, v4, v5, v6, v7, rfl, e5, ax, lx⟩
    have ltx : tx.length ≤ 1000 := by omega
    refine ⟨fun Cv m H1 => Cv = .ref A.BadText ∧ Same H5 H1 ∧ ∀ n ts, parse (ls tx) = some (n, ts) → webOk n (nT ts) = false, ?_, ?_⟩
    · refine ⟨_, rfl, tx, rfl, ltx, ax, fun n2 ts2 hp2 hok v H6 e6 dv => ?_, fun hbad m H6 e6 => ⟨rfl, e6, hbad⟩⟩
      refine ⟨_, rfl, tx, rfl, ltx, ax, fun n3 ts3 hp3 v' H7 e7 dv' => ?_, fun hpn => ?_⟩
      rotate_left
      · rw [hp2] at hpn; cases hpn
      rw [hp2] at hp3
      cases hp3
      obtain ⟨hm0, hm8, hmt⟩ := webOk_of hok
      have win2 : WebIn n2 (nT ts2) := webIn_of hok (by
        have hm := split_manyC 10 ltx
        rw [parse_eq] at hp2
        cases hz : placesL ((splitC 10 (ls tx)).headD []) with
        | none => rw [hz] at hp2; cases hp2
        | some m0 =>
          cases hy : allN tieL (splitC 10 (ls tx)).tail with
          | none => rw [hz, hy] at hp2; cases hp2
          | some t0 =>
            rw [hz, hy] at hp2
            cases hp2
            have := allN_len hy
            rw [List.length_tail] at this
            unfold nT
            rw [List.length_map]
            omega)
      have hv' : ∃ b, v' = .ref b := by
        obtain ⟨b, _, _, rfl, _⟩ := web_of dv'
        exact ⟨b, rfl⟩
      obtain ⟨b, rfl⟩ := hv'
      refine ⟨_, rfl, _, rfl, ifT rfl ⟨_, rfl, _, n2, nT ts2, rfl, dv', win2, fun H8 e8 => ⟨_, rfl, ?_⟩⟩⟩
      rw [hok]
      refine ifT rfl ?_
      have dwe2 := depth_web n2 (nT ts2)
      refine ⟨_, rfl, _, rfl, ifT rfl ⟨_, rfl, _, rfl, webD n2 (nT ts2), webD n2 (nT ts2), (dv.mono (e7.trans e8)).rep, (dv'.mono e8).rep, lay_web _ _, lay_web _ _, (by omega), ?_⟩⟩
      rw [eq_same (lay_web _ _)]
      exact q _
    · rintro C m H6 ⟨hC, e6, hbad⟩
      cases hC
      refine ⟨⟨_, _, T.x_BadText⟩, T.s_BadText, fun ea H7 e7 hea => ?_⟩
      refine ⟨_, rfl, ?_⟩
      -- behind the handler
      have win9 : WebIn 9 [] := ⟨by unfold small; decide, by decide, fun t h => absurd h List.not_mem_nil⟩
      refine ⟨_, rfl, tx, rfl, ltx, ax, fun n3 ts3 hp3 v' H8 e8 dv' => ?_, fun hpn H8 e8 => ?_⟩
      · obtain ⟨b, _, _, rfl, _⟩ := web_of dv'
        have hn3 : n3 < 1000 ∧ ts3.length ≤ 1000 ∧ ∀ t ∈ ts3, ∃ a b c, t = [a, b, c] ∧ a < 1000 ∧ b < 1000 ∧ c < 1000 := by
          have hm := split_manyC 10 ltx
          have hp3' := hp3
          rw [parse_eq] at hp3'
          cases hz : placesL ((splitC 10 (ls tx)).headD []) with
          | none => rw [hz] at hp3'; cases hp3'
          | some m0 =>
            cases hy : allN tieL (splitC 10 (ls tx)).tail with
            | none => rw [hz, hy] at hp3'; cases hp3'
            | some t0 =>
              rw [hz, hy] at hp3'
              cases hp3'
              obtain ⟨h1, h2⟩ := all_three hy
              rw [List.length_tail] at h1
              refine ⟨?_, by omega, h2⟩
              unfold placesL at hz
              split at hz
              · exact numL_lt hz
              · cases hz
        refine ⟨_, rfl, _, rfl, ifT rfl ⟨_, rfl, _, n3, nT ts3, rfl, dv', webIn_nat hn3.1 hn3.2.1 hn3.2.2, fun H9 e9 => ⟨_, rfl, ?_⟩⟩⟩
        rw [hbad n3 ts3 hp3]
        refine ifF rfl ?_
        have e79 := e8.trans e9
        refine ⟨_, rfl, _, rfl, .inr ⟨ea, A.BadText, "text", rfl, (e79 _ _ hea), .inr (.inr (.inr (.inl ⟨rfl, rfl⟩))), fun H10 e10 => ⟨rfl, _, rfl, iteNS rfl ?_⟩⟩⟩
        refine ⟨fun Cv m H1 => Cv = .ref A.BadWeb ∧ Same H10 H1, ?_, ?_⟩
        · refine ⟨(by show 0 ≤ sizeLine; decide), fun r1 hr1 => ⟨(by show 2 ≤ sizeLine; decide), fun r2 hr2 => ?_⟩⟩
          obtain ⟨t1, m1⟩ := new_pair (o := .lst []) hr1
          obtain ⟨t2, m2⟩ := new_pair (o := .tup [V.int 9, V.ref r1]) hr2
          exact ⟨.ref r2, 9, [], rfl, web_mk m2 (t2 _ _ m1) .nil, win9, fun z => (by rw [bad9] at z; cases z), fun _ H11 e11 => ⟨rfl, (t1.trans t2).trans e11⟩⟩
        · rintro C m H11 ⟨hC, e11⟩
          cases hC
          refine ⟨⟨_, _, T.x_BadWeb⟩, T.s_BadWeb, fun eb H12 e12 heb => ⟨_, rfl, _, rfl, _, rfl, .inr ⟨eb, A.BadWeb, "web", rfl, heb, .web, fun H13 e13 => ⟨rfl, ?_⟩⟩⟩⟩
          rw [decide_eq_true rfl]
          exact q _
      · refine ⟨_, rfl, _, rfl, ifF rfl (ifF rfl ?_)⟩
        have e79 := e8
        refine ⟨_, rfl, _, rfl, .inr ⟨ea, A.BadText, "text", rfl, (e79 _ _ hea), .inr (.inr (.inr (.inl ⟨rfl, rfl⟩))), fun H10 e10 => ⟨rfl, _, rfl, iteNS rfl ?_⟩⟩⟩
        refine ⟨fun Cv m H1 => Cv = .ref A.BadWeb ∧ Same H10 H1, ?_, ?_⟩
        · refine ⟨(by show 0 ≤ sizeLine; decide), fun r1 hr1 => ⟨(by show 2 ≤ sizeLine; decide), fun r2 hr2 => ?_⟩⟩
          obtain ⟨t1, m1⟩ := new_pair (o := .lst []) hr1
          obtain ⟨t2, m2⟩ := new_pair (o := .tup [V.int 9, V.ref r1]) hr2
          exact ⟨.ref r2, 9, [], rfl, web_mk m2 (t2 _ _ m1) .nil, win9, fun z => (by rw [bad9] at z; cases z), fun _ H11 e11 => ⟨rfl, (t1.trans t2).trans e11⟩⟩
        · rintro C m H11 ⟨hC, e11⟩
          cases hC
          refine ⟨⟨_, _, T.x_BadWeb⟩, T.s_BadWeb, fun eb H12 e12 heb => ⟨_, rfl, _, rfl, _, rfl, .inr ⟨eb, A.BadWeb, "web", rfl, heb, .web, fun H13 e13 => ⟨rfl, ?_⟩⟩⟩⟩
          rw [decide_eq_true rfl]
          exact q _
theorem all_ok (T : Txt K mg A D) : FnOk P w K mg base (CXF P w) 7 A.law D.law ["_law_script"] (spLaw K) := by
  have G_is_whole := ok_whole (P := P) (w := w) (base := base) (k := 0) T 
  have G_is_within := ok_within (P := P) (w := w) (base := base) (k := 1) T (G_is_whole := G_is_whole.mono (by decide))
  have G_is_tie := ok_tie (P := P) (w := w) (base := base) (k := 2) T (G_is_within := G_is_within.mono (by decide))
  have G_look_ties := ok_ties (P := P) (w := w) (base := base) (k := 3) T (G_is_tie := G_is_tie.mono (by decide))
  have G_look_web := ok_web (P := P) (w := w) (base := base) (k := 4) T (G_is_within := G_is_within.mono (by decide)) (G_look_ties := G_look_ties.mono (by decide))
  have G_written := ok_written (P := P) (w := w) (base := base) (k := 5) T (G_look_web := G_look_web.mono (by decide))
  have G_number_of := ok_number_of (P := P) (w := w) (base := base) (k := 0) T 
  have G_places_of := ok_places_of (P := P) (w := w) (base := base) (k := 1) T (G_number_of := G_number_of.mono (by decide))
  have G_tie_of := ok_tie_of (P := P) (w := w) (base := base) (k := 1) T (G_number_of := G_number_of.mono (by decide))
  have G_read := ok_read (P := P) (w := w) (base := base) (k := 5) T (G_places_of := G_places_of.mono (by decide)) (G_tie_of := G_tie_of.mono (by decide)) (G_look_web := G_look_web.mono (by decide))
  have G_law_cell := ok_law_cell (P := P) (w := w) (base := base) (k := 0) T 
  have G_law_mix := ok_law_mix (P := P) (w := w) (base := base) (k := 1) T (G_law_cell := G_law_cell.mono (by decide))
  have G_law_web := ok_law_web (P := P) (w := w) (base := base) (k := 2) T (G_law_mix := G_law_mix.mono (by decide))
  have G_law_refusal := ok_law_refusal (P := P) (w := w) (base := base) (k := 0) T 
  have G_law_text := ok_law_text (P := P) (w := w) (base := base) (k := 0) T 
  have G_law_numbers := ok_law_numbers (P := P) (w := w) (base := base) (k := 0) T 
  have G_law_tried := ok_law_tried (P := P) (w := w) (base := base) (k := 1) T (G_law_numbers := G_law_numbers.mono (by decide))
  have G_law_is_web := ok_law_is_web (P := P) (w := w) (base := base) (k := 5) T (G_look_web := G_look_web.mono (by decide))
  have G_law := ok_law (P := P) (w := w) (base := base) (k := 6) T (G_law_mix := G_law_mix.mono (by decide)) (G_law_web := G_law_web.mono (by decide)) (G_law_text := G_law_text.mono (by decide)) (G_law_tried := G_law_tried.mono (by decide)) (G_law_is_web := G_law_is_web.mono (by decide)) (G_law_refusal := G_law_refusal.mono (by decide)) (G_written := G_written.mono (by decide)) (G_read := G_read.mono (by decide))
  exact G_law
theorem walk {l : PySem.W.OpenLaw} {q : Program} {loose : List Str} {XP : (Str → Option Value) → Heap → Prop} {YP : World → Heap → Prop} {d : DefRec} {K : Params → PySem.W.Frag} (hn : l.most = some 63) (hdf : d.params.defaults = [])
    (hY : ∀ (w : World) (h : Heap), YP w h → (K w.params).In h)
    (F : ∀ (w : World) (mg : Str → Option Value) (fa : Addr) (h : Heap), (K w.params).In h → h.Ns mainGlobals mg → mg d.name = some (.ref fa) →
      ∃ fd : FuncData, (∀ (s : Shared) (u : Value), BindsTo s fd ⟨[u], []⟩ [("_law_script", u)]) ∧ ∀ base : Heap, (K w.params).In base → base.Ns mainGlobals mg → FnOk l.prog w (K w.params) mg base (CXF l.prog w) 7 fa fd ["_law_script"] (spLaw (K w.params))) :
    PySem.W.WalkO q loose XP YP l.row.toRowW d [] (fun f vs => PySem.call f vs) :=
  L2.walk_of (n := 63) (k := 7) (x := "_law_script") (CX := fun w => CXF l.prog w) (sp := fun w => spLaw (K w.params)) hn (by decide) hdf ⟨rfl, by decide, by decide, rfl⟩ hY F (fun _ _ a ns hl _ hS => ⟨a, ns, rfl, hS, hl, fun _ => rfl⟩) fun _ _ _ _ _ ⟨_, _, _, _, _, _, _, _, _, _, _, z⟩ => z
theorem given {l : PySem.W.OpenLaw} {w : World} {K : PySem.W.Frag} {mg : Str → Option Value} {fa : Addr} (hfa : mg "law" = some (.ref fa)) (h : ∃ A D, Txt K mg A D) :
    ∃ fd : FuncData, (∀ (s : Shared) (u : Value), BindsTo s fd ⟨[u], []⟩ [("_law_script", u)]) ∧ ∀ base : Heap, K.In base → base.Ns mainGlobals mg → FnOk l.prog w K mg base (CXF l.prog w) 7 fa fd ["_law_script"] (spLaw K) := by
  obtain ⟨A, D, T⟩ := h
  have e := hfa.symm.trans T.m_law
  cases e
  exact ⟨D.law, T.bl_law, fun base _ _ => all_ok T⟩
def without (ns : List Nat) (k : Nat) : List Stmt → List Stmt
  | [] => []
  | s :: r => if ns.contains k then without ns (k + 1) r else s :: without ns (k + 1) r
def view : Program := { PySem.Challenge.pw_rowlay_k40_texts with main := { PySem.Challenge.pw_rowlay_k40_texts.main with body := without [0, 7, 15, 24] 0 PySem.Challenge.pw_rowlay_k40_texts.main.body } }
theorem head {r : PySem.W.OpenRow} {q : Program} {loose : List Str} {d : DefRec} {kwd : List (Str × PySem.Expr)} {N : Nat} (H : PySem.W.Hook)
    (hl : PySem.W.LeftO r.prog q loose (fun s => PySem.W.xlAt q [] s && PySem.W.recOk r.toRowW.records s) H.obs H.val N) (hd : PySem.W.defOf q r.name = some (d, kwd))
    (ht : r.prog.theDef r.name = some (d.params, d.body, d.scope)) (hk : PySem.W.kwWritten? d.params.kwonlyargs d.params.kw_defaults = some kwd)
    (hr : (!r.writes || List.isEmpty r.records) = true) (hs : r.wellSaid = true) (hg : (PySem.W.chainsOk q && PySem.W.opensWell r.prog && (PySem.W.frees r.toRowW && r.within.isEmpty)) = true)
    (hb : r.prog.bare) (hw : r.promised) (hc : PySem.W.WalkO q loose (PySem.W.XL q []) H.says r.toRowW d kwd fun f vs => PySem.call f vs) : r.Holds :=
  PySem.W.holds_open hl H.of H.keeps (fun s e => PySem.W.xl_of s (Bool.and_eq_true_iff.mp e).1) PySem.W.XL.keeps hd ht hk (fun s e => PySem.W.recFacts_of (Bool.and_eq_true_iff.mp e).2) hr hs hg hb hw hc
end My
open PySem PySem.W PyProof.Rows
local macro_rules
  | `(tactic| o_head $H) => `(tactic| (refine My.head (q := My.view) (loose := []) (N := 3940) $H ?hl rfl rfl rfl rfl (by assumption) (by decide +kernel) ⟨rfl, rfl, rfl, rfl, rfl, by decide +kernel⟩ ?hw ?hc
                                       (case hl => exact My.left_of (by kernel_rfl) (by rfl) (fun s => by kernel_rfl) fun w os => by rw [PySem.W.Fast.te15663120176360888729]; kernel_rfl)))
set_option maxRecDepth 100000 in
set_option maxHeartbeats 0 in
theorem PySem.Challenge.cw_rowlay_k40_texts_holds : PySem.Challenge.rw_rowlay_k40_texts.Holds := by
  w_on; o_law; k_head; (case hw => w_witness2)
  k_fill
  refine My.walk (l := PySem.Challenge.rw_rowlay_k40_texts) rfl rfl (fun w h Y => PySem.W.kIn_of Y) ?F
  case F =>
    intro w mg fa h KX G hmg
    refine My.given hmg ?_
    refine' My.txt_mk KX G ?a_is_whole ?l_is_whole ?c_is_whole ?k_is_whole ?a_is_within ?l_is_within ?c_is_within ?k_is_within ?a_is_tie ?l_is_tie ?c_is_tie ?k_is_tie ?a_look_ties ?l_look_ties ?c_look_ties ?k_look_ties ?a_look_web ?l_look_web ?c_look_web ?k_look_web ?a_written ?l_written ?c_written ?k_written ?a_number_of ?l_number_of ?c_number_of ?k_number_of ?a_places_of ?l_places_of ?c_places_of ?k_places_of ?a_tie_of ?l_tie_of ?c_tie_of ?k_tie_of ?a_read ?l_read ?c_read ?k_read ?a_law_cell ?l_law_cell ?c_law_cell ?k_law_cell ?a_law_mix ?l_law_mix ?c_law_mix ?k_law_mix ?a_law_web ?l_law_web ?c_law_web ?k_law_web ?a_law_refusal ?l_law_refusal ?c_law_refusal ?k_law_refusal ?a_law_text ?l_law_text ?c_law_text ?k_law_text ?a_law_numbers ?l_law_numbers ?c_law_numbers ?k_law_numbers ?a_law_tried ?l_law_tried ?c_law_tried ?k_law_tried ?a_law_is_web ?l_law_is_web ?c_law_is_web ?k_law_is_web ?a_law ?l_law ?c_law ?k_law ?a_LayError ?x_LayError ?a_BadWeb ?x_BadWeb ?e1_BadWeb ?e2_BadWeb ?e3_BadWeb ?e4_BadWeb ?e5_BadWeb ?e6_BadWeb ?s_BadWeb ?v_BadWeb ?a_BadOrder ?x_BadOrder ?e1_BadOrder ?e2_BadOrder ?e3_BadOrder ?e4_BadOrder ?e5_BadOrder ?e6_BadOrder ?s_BadOrder ?v_BadOrder ?a_BadSpot ?x_BadSpot ?e1_BadSpot ?e2_BadSpot ?e3_BadSpot ?e4_BadSpot ?e5_BadSpot ?e6_BadSpot ?s_BadSpot ?v_BadSpot ?a_BadKind ?x_BadKind ?e1_BadKind ?e2_BadKind ?e3_BadKind ?e4_BadKind ?e5_BadKind ?e6_BadKind ?s_BadKind ?v_BadKind ?a_BadText ?x_BadText ?e1_BadText ?e2_BadText ?e3_BadText ?e4_BadText ?e5_BadText ?e6_BadText ?s_BadText ?v_BadText ?i_BadWeb_BadWeb ?i_BadWeb_BadOrder ?i_BadWeb_BadSpot ?i_BadWeb_BadKind ?i_BadWeb_BadText ?i_BadOrder_BadWeb ?i_BadOrder_BadOrder ?i_BadOrder_BadSpot ?i_BadOrder_BadKind ?i_BadOrder_BadText ?i_BadSpot_BadWeb ?i_BadSpot_BadOrder ?i_BadSpot_BadSpot ?i_BadSpot_BadKind ?i_BadSpot_BadText ?i_BadKind_BadWeb ?i_BadKind_BadOrder ?i_BadKind_BadSpot ?i_BadKind_BadKind ?i_BadKind_BadText ?i_BadText_BadWeb ?i_BadText_BadOrder ?i_BadText_BadSpot ?i_BadText_BadKind ?i_BadText_BadText ?g_MOST_PLACES ?g_MOST_WEIGHT ?g_MOST_FIGURES ?g_HEAD ?g_FIGURES ?z_all ?z_bool ?z_int ?z_isinstance ?z_len ?z_list ?z_range ?z_str ?z_tuple ?z_ValueError ?k_bool_bool ?k_bool_int ?k_bool_str ?k_bool_list ?k_bool_tuple ?k_int_bool ?k_int_int ?k_int_str ?k_int_list ?k_int_tuple ?k_str_bool ?k_str_int ?k_str_str ?k_str_list ?k_str_tuple ?k_list_bool ?k_list_int ?k_list_str ?k_list_list ?k_list_tuple ?k_tuple_bool ?k_tuple_int ?k_tuple_str ?k_tuple_list ?k_tuple_tuple
    (case a_is_whole => k_is)
    (case l_is_whole => k_is)
    (case c_is_whole => k_is)
    (case k_is_whole => k_is)
    (case a_is_within => k_is)
    (case l_is_within => k_is)
    (case c_is_within => k_is)
    (case k_is_within => k_is)
    (case a_is_tie => k_is)
    (case l_is_tie => k_is)
    (case c_is_tie => k_is)
    (case k_is_tie => k_is)
    (case a_look_ties => k_is)
    (case l_look_ties => k_is)
    (case c_look_ties => k_is)
    (case k_look_ties => k_is)
    (case a_look_web => k_is)
    (case l_look_web => k_is)
    (case c_look_web => k_is)
    (case k_look_web => k_is)
    (case a_written => k_is)
    (case l_written => k_is)
    (case c_written => k_is)
    (case k_written => k_is)
    (case a_number_of => k_is)
    (case l_number_of => k_is)
    (case c_number_of => k_is)
    (case k_number_of => k_is)
    (case a_places_of => k_is)
    (case l_places_of => k_is)
    (case c_places_of => k_is)
    (case k_places_of => k_is)
    (case a_tie_of => k_is)
    (case l_tie_of => k_is)
    (case c_tie_of => k_is)
    (case k_tie_of => k_is)
    (case a_read => k_is)
    (case l_read => k_is)
    (case c_read => k_is)
    (case k_read => k_is)
    (case a_law_cell => k_is)
    (case l_law_cell => k_is)
    (case c_law_cell => k_is)
    (case k_law_cell => k_is)
    (case a_law_mix => k_is)
    (case l_law_mix => k_is)
    (case c_law_mix => k_is)
    (case k_law_mix => k_is)
    (case a_law_web => k_is)
    (case l_law_web => k_is)
    (case c_law_web => k_is)
    (case k_law_web => k_is)
    (case a_law_refusal => k_is)
    (case l_law_refusal => k_is)
    (case c_law_refusal => k_is)
    (case k_law_refusal => k_is)
    (case a_law_text => k_is)
    (case l_law_text => k_is)
    (case c_law_text => k_is)
    (case k_law_text => k_is)
    (case a_law_numbers => k_is)
    (case l_law_numbers => k_is)
    (case c_law_numbers => k_is)
    (case k_law_numbers => k_is)
    (case a_law_tried => k_is)
    (case l_law_tried => k_is)
    (case c_law_tried => k_is)
    (case k_law_tried => k_is)
    (case a_law_is_web => k_is)
    (case l_law_is_web => k_is)
    (case c_law_is_web => k_is)
    (case k_law_is_web => k_is)
    (case a_law => k_is)
    (case l_law => k_is)
    (case c_law => k_is)
    (case k_law => k_is)
    (case a_LayError => k_is)
    (case x_LayError => k_exc)
    (case a_BadWeb => k_is)
    (case x_BadWeb => k_exc)
    (case e1_BadWeb => k_is)
    (case e2_BadWeb => k_is)
    (case e3_BadWeb => k_is)
    (case e4_BadWeb => k_is)
    (case e5_BadWeb => k_is)
    (case e6_BadWeb => k_is)
    (case s_BadWeb => k_is)
    (case v_BadWeb => kit_is)
    (case a_BadOrder => k_is)
    (case x_BadOrder => k_exc)
    (case e1_BadOrder => k_is)
    (case e2_BadOrder => k_is)
    (case e3_BadOrder => k_is)
    (case e4_BadOrder => k_is)
    (case e5_BadOrder => k_is)
    (case e6_BadOrder => k_is)
    (case s_BadOrder => k_is)
    (case v_BadOrder => kit_is)
    (case a_BadSpot => k_is)
    (case x_BadSpot => k_exc)
    (case e1_BadSpot => k_is)
    (case e2_BadSpot => k_is)
    (case e3_BadSpot => k_is)
    (case e4_BadSpot => k_is)
    (case e5_BadSpot => k_is)
    (case e6_BadSpot => k_is)
    (case s_BadSpot => k_is)
    (case v_BadSpot => kit_is)
    (case a_BadKind => k_is)
    (case x_BadKind => k_exc)
    (case e1_BadKind => k_is)
    (case e2_BadKind => k_is)
    (case e3_BadKind => k_is)
    (case e4_BadKind => k_is)
    (case e5_BadKind => k_is)
    (case e6_BadKind => k_is)
    (case s_BadKind => k_is)
    (case v_BadKind => kit_is)
    (case a_BadText => k_is)
    (case x_BadText => k_exc)
    (case e1_BadText => k_is)
    (case e2_BadText => k_is)
    (case e3_BadText => k_is)
    (case e4_BadText => k_is)
    (case e5_BadText => k_is)
    (case e6_BadText => k_is)
    (case s_BadText => k_is)
    (case v_BadText => kit_is)
    (case i_BadWeb_BadWeb => kit_is)
    (case i_BadWeb_BadOrder => kit_is)
    (case i_BadWeb_BadSpot => kit_is)
    (case i_BadWeb_BadKind => kit_is)
    (case i_BadWeb_BadText => kit_is)
    (case i_BadOrder_BadWeb => kit_is)
    (case i_BadOrder_BadOrder => kit_is)
    (case i_BadOrder_BadSpot => kit_is)
    (case i_BadOrder_BadKind => kit_is)
    (case i_BadOrder_BadText => kit_is)
    (case i_BadSpot_BadWeb => kit_is)
    (case i_BadSpot_BadOrder => kit_is)
    (case i_BadSpot_BadSpot => kit_is)
    (case i_BadSpot_BadKind => kit_is)
    (case i_BadSpot_BadText => kit_is)
    (case i_BadKind_BadWeb => kit_is)
    (case i_BadKind_BadOrder => kit_is)
    (case i_BadKind_BadSpot => kit_is)
    (case i_BadKind_BadKind => kit_is)
    (case i_BadKind_BadText => kit_is)
    (case i_BadText_BadWeb => kit_is)
    (case i_BadText_BadOrder => kit_is)
    (case i_BadText_BadSpot => kit_is)
    (case i_BadText_BadKind => kit_is)
    (case i_BadText_BadText => kit_is)
    (case g_MOST_PLACES => k_is)
    (case g_MOST_WEIGHT => k_is)
    (case g_MOST_FIGURES => k_is)
    (case g_HEAD => k_is)
    (case g_FIGURES => k_is)
    (case z_all => k_is)
    (case z_bool => k_is)
    (case z_int => k_is)
    (case z_isinstance => k_is)
    (case z_len => k_is)
    (case z_list => k_is)
    (case z_range => k_is)
    (case z_str => k_is)
    (case z_tuple => k_is)
    (case z_ValueError => k_is)
    (case k_bool_bool => kit_is)
    (case k_bool_int => kit_is)
    (case k_bool_str => kit_is)
    (case k_bool_list => kit_is)
    (case k_bool_tuple => kit_is)
    (case k_int_bool => kit_is)
    (case k_int_int => kit_is)
    (case k_int_str => kit_is)
    (case k_int_list => kit_is)
    (case k_int_tuple => kit_is)
    (case k_str_bool => kit_is)
    (case k_str_int => kit_is)
    (case k_str_str => kit_is)
    (case k_str_list => kit_is)
    (case k_str_tuple => kit_is)
    (case k_list_bool => kit_is)
    (case k_list_int => kit_is)
    (case k_list_str => kit_is)
    (case k_list_list => kit_is)
    (case k_list_tuple => kit_is)
    (case k_tuple_bool => kit_is)
    (case k_tuple_int => kit_is)
    (case k_tuple_str => kit_is)
    (case k_tuple_list => kit_is)
    (case k_tuple_tuple => kit_is)
